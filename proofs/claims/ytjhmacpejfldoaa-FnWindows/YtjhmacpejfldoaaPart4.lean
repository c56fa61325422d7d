/- Part 4 of the walks that the proof leans on. -/
import Derived.Test.YtjhmacpejfldoaaPart3
import Derived.Test.YtjhmacpejfldoaaPart2
import Derived.Lib.MinMax
import Derived.Test.YtjhmacpejfldoaaPart1
import Derived.Deep.RegionHeld3
import Derived.Deep.DeepCutAuto
/- Drawn regions of boxes and windows. -/
namespace Go.Proofs.Ytjhmacpejfldoaa
open Go.RowKit
/-- A small number. -/
def Sm (z : Int) : Prop := -6 ≤ z ∧ z < 7
theorem Sm.min {x y : Int} (h : Sm x) (h' : Sm y) : Sm (Min.min x y) := by unfold Sm at *; omega
theorem Sm.max {x y : Int} (h : Sm x) (h' : Sm y) : Sm (Max.max x y) := by unfold Sm at *; omega
def VbxA (_R0 _R1 _A4 _A5 : Nat) (x y r s : Int) (_B : Nat) : Nat → Value → World → Prop
  | 0, v, _ => v = .agg #[.int .i64 x, .int .i64 y]
  | 1, v, _ => v = .agg #[.int .i64 r, .int .i64 s]
  | _, _, _ => True
theorem VbxA.mono {R0 R1 A4 A5 : Nat} {x y r s : Int} {B j : Nat} {v : Value} {W W2 : World} (_hB : Below W.heap.size W W2) (h : VbxA R0 R1 A4 A5 x y r s B j v W) : VbxA R0 R1 A4 A5 x y r s B j v W2 := by
  unfold VbxA at *
  split <;> simp only at h <;> first | exact h | trivial
theorem VbxA.same {R0 R1 A4 A5 : Nat} {x y r s : Int} {B j : Nat} {v : Value} {W W2 : World} (h : VbxA R0 R1 A4 A5 x y r s B j v W) : VbxA R0 R1 A4 A5 x y r s B j v W2 := by
  unfold VbxA at *
  split <;> simp only at h <;> first | exact h | trivial
def SbxA (R0 R1 A4 A5 : Nat) (x y r s : Int) (W : World) : Prop := Blk W A4 [.int .i64 x, .int .i64 y] ∧ Blk W A5 [.int .i64 r, .int .i64 s] ∧ (∃ p q : Int, Sm p ∧ Sm q ∧ Blk W R0 [.int .i64 p, .int .i64 q]) ∧ ∃ p q : Int, Sm p ∧ Sm q ∧ Blk W R1 [.int .i64 p, .int .i64 q]
def JbxA (R0 R1 A4 A5 : Nat) (x y r s : Int) (w0 : World) (a0 : Act) (lz : Array Bool) (az : Act) (W : World) : Prop := InvQ (R0) [some 12, some 13, none, none] (VbxA R0 R1 A4 A5 x y r s (R0)) w0 a0 lz az W ∧ SbxA R0 R1 A4 A5 x y r s W
set_option maxRecDepth 100000 in
set_option maxHeartbeats 4000000 in
theorem bxA {Q : Exit → Act → World → Prop} {R0 R1 A4 A5 : Nat} {x y r s : Int}  {w0 : World} {a0 : Act} {idq : Nat} {t0 t1 t2 t3 : TypeId} {q0 q1 q2 q3 : String}
    (n01 : R0 < R1) (n40 : R1 < A4) (n50 : R1 < A5) (hx : Sm x) (hy : Sm y) (hr : Sm r) (hs' : Sm s) (h4 : a0.tmps[4]? = some (.pointer (some ⟨A4, 0, none⟩))) (h5 : a0.tmps[5]? = some (.pointer (some ⟨A5, 0, none⟩))) (h2 : a0.tmps[2]? = some (.pointer (some ⟨R0, 0, none⟩))) (h3 : a0.tmps[3]? = some (.pointer (some ⟨R1, 0, none⟩)))  (hz : a0.tmps.size = 36) (hs0 : SbxA R0 R1 A4 A5 x y r s w0.drew)
    (hQ : ∀ aq W, aq.tmps.size = a0.tmps.size → aq.defers = a0.defers → (∀ e, e ∉ ([12, 13] : List Nat) → aq.tmps[e]? = a0.tmps[e]?) → Below (R0) w0 W → SbxA R0 R1 A4 A5 x y r s W → Q .normal aq W) :
    (Code.region idq #[{ dst := some 12, op := Op.load 26 (Operand.tmp 4), type := t0, pos := q0, after := #[], guard := none },
    { dst := some 13, op := Op.load 26 (Operand.tmp 5), type := t1, pos := q1, after := #[{ on := 2, ground := Ground.gcOnly Departure.lateStores }], guard := none },
    { dst := none, op := Op.store 26 (Operand.tmp 2) (Operand.tmp 12), type := t2, pos := q2, after := #[{ on := 0, ground := Ground.data }, { on := 0, ground := Ground.phase }, { on := 1, ground := Ground.textOnly Departure.lateStores }], guard := none },
    { dst := none, op := Op.store 26 (Operand.tmp 3) (Operand.tmp 13), type := t3, pos := q3, after := #[{ on := 1, ground := Ground.data }, { on := 2, ground := Ground.chain }, { on := 0, ground := Ground.phase }, { on := 1, ground := Ground.phase }, { on := 2, ground := Ground.phase }], guard := none }] true).wp Try.prog Q a0 w0 := by
  have hS : distS [some 12, some 13, none, none] = true := rfl
  refine wp_region_inv (by kernel_rfl) (JbxA R0 R1 A4 A5 x y r s w0 a0) ⟨⟨rfl, rfl, rfl, fun _ _ => rfl, (Below.refl _ w0).drew, fun j d hj => ?_, fun j hj => ?_⟩, hs0⟩ ?_ ?_
  · exfalso
    rw [Array.getD_eq_getD_getElem?, Array.getElem?_replicate] at hj
    split at hj <;> simp at hj
  · exfalso
    rw [Array.getD_eq_getD_getElem?, Array.getElem?_replicate] at hj
    split at hj <;> simp at hj
  · intro lq aq W iq oq ⟨hJ, hs⟩ hl ho hall
    have hJ2 := hJ
    obtain ⟨z1, z2, z3, z4, z5, z6, z7⟩ := hJ
    obtain ⟨xa, xb, ⟨pa, qa, ipa, iqa, xc⟩, pb, qb, ipb, iqb, xd⟩ := hs
    have ca0 := xa.c 0 rfl; have ca1 := xa.c 1 rfl; have cb0 := xb.c 0 rfl; have cb1 := xb.c 1 rfl
    have rc0 := xc.c 0 rfl; have sc0 := xc.f 0 rfl; have rc1 := xc.c 1 rfl; have sc1 := xc.f 1 rfl; have rlc := xc.lt
    have rd0 := xd.c 0 rfl; have sd0 := xd.f 0 rfl; have rd1 := xd.c 1 rfl; have sd1 := xd.f 1 rfl; have rld := xd.lt
    have hs : SbxA R0 R1 A4 A5 x y r s W := ⟨xa, xb, ⟨pa, qa, ipa, iqa, xc⟩, pb, qb, ipb, iqb, xd⟩
    have g4 : aq.tmps.getD 4 undef = .pointer (some ⟨A4, 0, none⟩) := by rw [Array.getD_eq_getD_getElem?, z4 4 (by decide), h4]; rfl
    have g5 : aq.tmps.getD 5 undef = .pointer (some ⟨A5, 0, none⟩) := by rw [Array.getD_eq_getD_getElem?, z4 5 (by decide), h5]; rfl
    have g2 : aq.tmps.getD 2 undef = .pointer (some ⟨R0, 0, none⟩) := by rw [Array.getD_eq_getD_getElem?, z4 2 (by decide), h2]; rfl
    have g3 : aq.tmps.getD 3 undef = .pointer (some ⟨R1, 0, none⟩) := by rw [Array.getD_eq_getD_getElem?, z4 3 (by decide), h3]; rfl
    match iq, ho with
    | 0, ho =>
      cases ho
      refine wpOp_of rfl rfl ?_
      have hK := fun (v : Value) (W2 : World) hW hT hv (hs : SbxA R0 R1 A4 A5 x y r s W2) => show (JbxA R0 R1 A4 A5 x y r s w0 a0) (lq.setIfInBounds 0 true) (aq.put (some 12) v) W2 from ⟨hJ2.put hS 0 12 rfl (by omega) (W' := W2) hW hT v hv, hs⟩
      clear ho hall hl hQ
      generalize (JbxA R0 R1 A4 A5 x y r s w0 a0) (lq.setIfInBounds 0 true) = K at hK ⊢
      clear hJ2 hS z1 z2 z3 z4 z6 z7
      go_simp
      exact hK _ _ z5 (fun _ _ h => h) rfl hs
    | 1, ho =>
      cases ho
      refine wpOp_of rfl rfl ?_
      have hK := fun (v : Value) (W2 : World) hW hT hv (hs : SbxA R0 R1 A4 A5 x y r s W2) => show (JbxA R0 R1 A4 A5 x y r s w0 a0) (lq.setIfInBounds 1 true) (aq.put (some 13) v) W2 from ⟨hJ2.put hS 1 13 rfl (by omega) (W' := W2) hW hT v hv, hs⟩
      clear ho hall hl hQ
      generalize (JbxA R0 R1 A4 A5 x y r s w0 a0) (lq.setIfInBounds 1 true) = K at hK ⊢
      clear hJ2 hS z1 z2 z3 z4 z6 z7
      go_simp
      exact hK _ _ z5 (fun _ _ h => h) rfl hs
    | 2, ho =>
      cases ho
      refine wpOp_of rfl rfl ?_
      have f0 : (aq.tmps.getD 12 undef) = .agg #[.int .i64 x, .int .i64 y] := z6 0 12 (hall { on := 0, ground := Ground.data } (by simp) rfl) rfl
      have hK := fun (W2 : World) hW hT hv (hs : SbxA R0 R1 A4 A5 x y r s W2) => show (JbxA R0 R1 A4 A5 x y r s w0 a0) (lq.setIfInBounds 2 true) aq W2 from ⟨hJ2.world 2 rfl (W' := W2) hW hT hv, hs⟩
      clear ho hall hl hQ
      generalize (JbxA R0 R1 A4 A5 x y r s w0 a0) (lq.setIfInBounds 2 true) = K at hK ⊢
      clear hJ2 hS z1 z2 z3 z4 z6 z7
      have nb : Blk ((W.setCell ⟨R0, 0, none⟩ (.int .i64 x)).setCell ⟨R0, 1, none⟩ (.int .i64 y)) R0 [.int .i64 x, .int .i64 y] := (xc.setI 0 (by simp) _).setI 1 (by simp) _
      have ns : SbxA R0 R1 A4 A5 x y r s ((W.setCell ⟨R0, 0, none⟩ (.int .i64 x)).setCell ⟨R0, 1, none⟩ (.int .i64 y)) := ⟨(xa.setO (p := ⟨R0, 0, none⟩) (by show _ ≠ R0; omega) _).setO (p := ⟨R0, 1, none⟩) (by show _ ≠ R0; omega) _, (xb.setO (p := ⟨R0, 0, none⟩) (by show _ ≠ R0; omega) _).setO (p := ⟨R0, 1, none⟩) (by show _ ≠ R0; omega) _, ⟨_, _, hx, hy, nb⟩, pb, qb, ipb, iqb, (xd.setO (p := ⟨R0, 0, none⟩) (by show _ ≠ R0; omega) _).setO (p := ⟨R0, 1, none⟩) (by show _ ≠ R0; omega) _⟩
      have nB : Below R0 w0 ((W.setCell ⟨R0, 0, none⟩ (.int .i64 x)).setCell ⟨R0, 1, none⟩ (.int .i64 y)) := (z5.setCell (p := ⟨R0, 0, none⟩) (Nat.le_refl _) _).setCell (p := ⟨R0, 1, none⟩) (Nat.le_refl _) _
      clear xa xb xc xd nb
      go_simp
      exact hK _ nB (fun _ _ h => VbxA.same h) trivial ns
    | 3, ho =>
      cases ho
      refine wpOp_of rfl rfl ?_
      have f1 : (aq.tmps.getD 13 undef) = .agg #[.int .i64 r, .int .i64 s] := z6 1 13 (hall { on := 1, ground := Ground.data } (by simp) rfl) rfl
      have hK := fun (W2 : World) hW hT hv (hs : SbxA R0 R1 A4 A5 x y r s W2) => show (JbxA R0 R1 A4 A5 x y r s w0 a0) (lq.setIfInBounds 3 true) aq W2 from ⟨hJ2.world 3 rfl (W' := W2) hW hT hv, hs⟩
      clear ho hall hl hQ
      generalize (JbxA R0 R1 A4 A5 x y r s w0 a0) (lq.setIfInBounds 3 true) = K at hK ⊢
      clear hJ2 hS z1 z2 z3 z4 z6 z7
      have nb : Blk ((W.setCell ⟨R1, 0, none⟩ (.int .i64 r)).setCell ⟨R1, 1, none⟩ (.int .i64 s)) R1 [.int .i64 r, .int .i64 s] := (xd.setI 0 (by simp) _).setI 1 (by simp) _
      have ns : SbxA R0 R1 A4 A5 x y r s ((W.setCell ⟨R1, 0, none⟩ (.int .i64 r)).setCell ⟨R1, 1, none⟩ (.int .i64 s)) := ⟨(xa.setO (p := ⟨R1, 0, none⟩) (by show _ ≠ R1; omega) _).setO (p := ⟨R1, 1, none⟩) (by show _ ≠ R1; omega) _, (xb.setO (p := ⟨R1, 0, none⟩) (by show _ ≠ R1; omega) _).setO (p := ⟨R1, 1, none⟩) (by show _ ≠ R1; omega) _, ⟨pa, qa, ipa, iqa, (xc.setO (p := ⟨R1, 0, none⟩) (by show _ ≠ R1; omega) _).setO (p := ⟨R1, 1, none⟩) (by show _ ≠ R1; omega) _⟩, _, _, hr, hs', nb⟩
      have nB : Below R0 w0 ((W.setCell ⟨R1, 0, none⟩ (.int .i64 r)).setCell ⟨R1, 1, none⟩ (.int .i64 s)) := (z5.setCell (p := ⟨R1, 0, none⟩) (Nat.le_of_lt n01) _).setCell (p := ⟨R1, 1, none⟩) (Nat.le_of_lt n01) _
      clear xa xb xc xd nb
      go_simp
      exact hK _ nB (fun _ _ h => VbxA.same h) trivial ns
    | iq + 4, ho => simp at ho
  · intro lq aq W ⟨hJ, hs⟩ hr
    obtain ⟨z1, z2, z3, z4, z5, z6, z7⟩ := hJ
    exact hQ aq W z2 z3 (fun e he => z4 e (by simpa using he))  z5 hs
def VbxB (_R0 _R1 A4 A5 : Nat) (x y r s : Int) (_B : Nat) : Nat → Value → World → Prop
  | 0, v, _ => v = .pointer (some ⟨A4, 0, none⟩)
  | 1, v, _ => v = .int .i64 x
  | 2, v, _ => v = .pointer (some ⟨A5, 0, none⟩)
  | 3, v, _ => v = .int .i64 r
  | 4, v, _ => v = .int .i64 (min x r)
  | 5, v, _ => v = .pointer (some ⟨A4, 1, none⟩)
  | 6, v, _ => v = .int .i64 y
  | 7, v, _ => v = .pointer (some ⟨A5, 1, none⟩)
  | 8, v, _ => v = .int .i64 s
  | 9, v, _ => v = .int .i64 (min y s)
  | 10, v, _ => v = .agg #[.int .i64 (min x r), .int .i64 (min y s)]
  | 11, v, _ => v = .pointer (some ⟨A4, 0, none⟩)
  | 12, v, _ => v = .int .i64 x
  | 13, v, _ => v = .pointer (some ⟨A5, 0, none⟩)
  | 14, v, _ => v = .int .i64 r
  | 15, v, _ => v = .int .i64 (max x r)
  | 16, v, _ => v = .pointer (some ⟨A4, 1, none⟩)
  | 17, v, _ => v = .int .i64 y
  | 18, v, _ => v = .pointer (some ⟨A5, 1, none⟩)
  | 19, v, _ => v = .int .i64 s
  | 20, v, _ => v = .int .i64 (max y s)
  | 21, v, _ => v = .agg #[.int .i64 (max x r), .int .i64 (max y s)]
  | _, _, _ => True
theorem VbxB.mono {R0 R1 A4 A5 : Nat} {x y r s : Int} {B j : Nat} {v : Value} {W W2 : World} (_hB : Below W.heap.size W W2) (h : VbxB R0 R1 A4 A5 x y r s B j v W) : VbxB R0 R1 A4 A5 x y r s B j v W2 := by
  unfold VbxB at *
  split <;> simp only at h <;> first | exact h | trivial
theorem VbxB.same {R0 R1 A4 A5 : Nat} {x y r s : Int} {B j : Nat} {v : Value} {W W2 : World} (h : VbxB R0 R1 A4 A5 x y r s B j v W) : VbxB R0 R1 A4 A5 x y r s B j v W2 := by
  unfold VbxB at *
  split <;> simp only at h <;> first | exact h | trivial
def SbxB (R0 R1 A4 A5 : Nat) (x y r s : Int) (W : World) : Prop := Blk W A4 [.int .i64 x, .int .i64 y] ∧ Blk W A5 [.int .i64 r, .int .i64 s] ∧ (∃ p q : Int, Sm p ∧ Sm q ∧ Blk W R0 [.int .i64 p, .int .i64 q]) ∧ ∃ p q : Int, Sm p ∧ Sm q ∧ Blk W R1 [.int .i64 p, .int .i64 q]
def JbxB (R0 R1 A4 A5 : Nat) (x y r s : Int) (w0 : World) (a0 : Act) (lz : Array Bool) (az : Act) (W : World) : Prop := InvQ (R0) [some 14, some 15, some 16, some 17, some 18, some 19, some 20, some 21, some 22, some 23, some 24, some 25, some 26, some 27, some 28, some 29, some 30, some 31, some 32, some 33, some 34, some 35, none, none] (VbxB R0 R1 A4 A5 x y r s (R0)) w0 a0 lz az W ∧ SbxB R0 R1 A4 A5 x y r s W
set_option maxRecDepth 100000 in
set_option maxHeartbeats 4000000 in
theorem bxB {Q : Exit → Act → World → Prop} {R0 R1 A4 A5 : Nat} {x y r s : Int}  {w0 : World} {a0 : Act} {idq : Nat} {t0 t1 t2 t3 t4 t5 t6 t7 t8 t9 t10 t11 t12 t13 t14 t15 t16 t17 t18 t19 t20 t21 t22 t23 : TypeId} {q0 q1 q2 q3 q4 q5 q6 q7 q8 q9 q10 q11 q12 q13 q14 q15 q16 q17 q18 q19 q20 q21 q22 q23 : String}
    (n01 : R0 < R1) (n40 : R1 < A4) (n50 : R1 < A5) (hx : Sm x) (hy : Sm y) (hr : Sm r) (hs' : Sm s) (h4 : a0.tmps[4]? = some (.pointer (some ⟨A4, 0, none⟩))) (h5 : a0.tmps[5]? = some (.pointer (some ⟨A5, 0, none⟩))) (h2 : a0.tmps[2]? = some (.pointer (some ⟨R0, 0, none⟩))) (h3 : a0.tmps[3]? = some (.pointer (some ⟨R1, 0, none⟩)))  (hz : a0.tmps.size = 36) (hs0 : SbxB R0 R1 A4 A5 x y r s w0.drew)
    (hQ : ∀ aq W, aq.tmps.size = a0.tmps.size → aq.defers = a0.defers → (∀ e, e ∉ ([14, 15, 16, 17, 18, 19, 20, 21, 22, 23, 24, 25, 26, 27, 28, 29, 30, 31, 32, 33, 34, 35] : List Nat) → aq.tmps[e]? = a0.tmps[e]?) → Below (R0) w0 W → SbxB R0 R1 A4 A5 x y r s W → Q .normal aq W) :
    (Code.region idq #[{ dst := some 14, op := Op.fieldAddr 26 (Operand.tmp 4) 0, type := t0, pos := q0, after := #[], guard := none },
    { dst := some 15, op := Op.load 2 (Operand.tmp 14), type := t1, pos := q1, after := #[{ on := 0, ground := Ground.data }], guard := none },
    { dst := some 16, op := Op.fieldAddr 26 (Operand.tmp 5) 0, type := t2, pos := q2, after := #[], guard := none },
    { dst := some 17, op := Op.load 2 (Operand.tmp 16), type := t3, pos := q3, after := #[{ on := 2, ground := Ground.data }], guard := none },
    { dst := some 18, op := Op.call { callee := Callee.builtin Builtin.min, args := #[Operand.tmp 15, Operand.tmp 17], argTypes := #[2, 2] }, type := t4, pos := q4, after := #[{ on := 1, ground := Ground.data }, { on := 3, ground := Ground.data }], guard := none },
    { dst := some 19, op := Op.fieldAddr 26 (Operand.tmp 4) 1, type := t5, pos := q5, after := #[], guard := none },
    { dst := some 20, op := Op.load 2 (Operand.tmp 19), type := t6, pos := q6, after := #[{ on := 5, ground := Ground.data }], guard := none },
    { dst := some 21, op := Op.fieldAddr 26 (Operand.tmp 5) 1, type := t7, pos := q7, after := #[], guard := none },
    { dst := some 22, op := Op.load 2 (Operand.tmp 21), type := t8, pos := q8, after := #[{ on := 7, ground := Ground.data }], guard := none },
    { dst := some 23, op := Op.call { callee := Callee.builtin Builtin.min, args := #[Operand.tmp 20, Operand.tmp 22], argTypes := #[2, 2] }, type := t9, pos := q9, after := #[{ on := 6, ground := Ground.data }, { on := 8, ground := Ground.data }], guard := none },
    { dst := some 24, op := Op.build 26 #[(0, Operand.tmp 18), (1, Operand.tmp 23)], type := t10, pos := q10, after := #[{ on := 4, ground := Ground.data }, { on := 9, ground := Ground.data }], guard := none },
    { dst := some 25, op := Op.fieldAddr 26 (Operand.tmp 4) 0, type := t11, pos := q11, after := #[], guard := none },
    { dst := some 26, op := Op.load 2 (Operand.tmp 25), type := t12, pos := q12, after := #[{ on := 11, ground := Ground.data }], guard := none },
    { dst := some 27, op := Op.fieldAddr 26 (Operand.tmp 5) 0, type := t13, pos := q13, after := #[], guard := none },
    { dst := some 28, op := Op.load 2 (Operand.tmp 27), type := t14, pos := q14, after := #[{ on := 13, ground := Ground.data }], guard := none },
    { dst := some 29, op := Op.call { callee := Callee.builtin Builtin.max, args := #[Operand.tmp 26, Operand.tmp 28], argTypes := #[2, 2] }, type := t15, pos := q15, after := #[{ on := 12, ground := Ground.data }, { on := 14, ground := Ground.data }], guard := none },
    { dst := some 30, op := Op.fieldAddr 26 (Operand.tmp 4) 1, type := t16, pos := q16, after := #[], guard := none },
    { dst := some 31, op := Op.load 2 (Operand.tmp 30), type := t17, pos := q17, after := #[{ on := 16, ground := Ground.data }], guard := none },
    { dst := some 32, op := Op.fieldAddr 26 (Operand.tmp 5) 1, type := t18, pos := q18, after := #[], guard := none },
    { dst := some 33, op := Op.load 2 (Operand.tmp 32), type := t19, pos := q19, after := #[{ on := 18, ground := Ground.data }], guard := none },
    { dst := some 34, op := Op.call { callee := Callee.builtin Builtin.max, args := #[Operand.tmp 31, Operand.tmp 33], argTypes := #[2, 2] }, type := t20, pos := q20, after := #[{ on := 17, ground := Ground.data }, { on := 19, ground := Ground.data }], guard := none },
    { dst := some 35, op := Op.build 26 #[(0, Operand.tmp 29), (1, Operand.tmp 34)], type := t21, pos := q21, after := #[{ on := 15, ground := Ground.data }, { on := 20, ground := Ground.data }, { on := 22, ground := Ground.gcOnly Departure.lateStores }], guard := none },
    { dst := none, op := Op.store 26 (Operand.tmp 2) (Operand.tmp 24), type := t22, pos := q22, after := #[{ on := 10, ground := Ground.data }, { on := 0, ground := Ground.phase }, { on := 1, ground := Ground.phase }, { on := 2, ground := Ground.phase }, { on := 3, ground := Ground.phase }, { on := 4, ground := Ground.phase }, { on := 5, ground := Ground.phase }, { on := 6, ground := Ground.phase }, { on := 7, ground := Ground.phase }, { on := 8, ground := Ground.phase }, { on := 9, ground := Ground.phase }, { on := 10, ground := Ground.phase }, { on := 11, ground := Ground.textOnly Departure.lateStores }, { on := 12, ground := Ground.textOnly Departure.lateStores }, { on := 13, ground := Ground.textOnly Departure.lateStores }, { on := 14, ground := Ground.textOnly Departure.lateStores }, { on := 15, ground := Ground.textOnly Departure.lateStoresUnsure }, { on := 16, ground := Ground.textOnly Departure.lateStores }, { on := 17, ground := Ground.textOnly Departure.lateStores }, { on := 18, ground := Ground.textOnly Departure.lateStores }, { on := 19, ground := Ground.textOnly Departure.lateStores }, { on := 20, ground := Ground.textOnly Departure.lateStoresUnsure }, { on := 21, ground := Ground.textOnly Departure.lateStores }], guard := none },
    { dst := none, op := Op.store 26 (Operand.tmp 3) (Operand.tmp 35), type := t23, pos := q23, after := #[{ on := 21, ground := Ground.data }, { on := 22, ground := Ground.chain }, { on := 0, ground := Ground.phase }, { on := 1, ground := Ground.phase }, { on := 2, ground := Ground.phase }, { on := 3, ground := Ground.phase }, { on := 4, ground := Ground.phase }, { on := 5, ground := Ground.phase }, { on := 6, ground := Ground.phase }, { on := 7, ground := Ground.phase }, { on := 8, ground := Ground.phase }, { on := 9, ground := Ground.phase }, { on := 10, ground := Ground.phase }, { on := 11, ground := Ground.phase }, { on := 12, ground := Ground.phase }, { on := 13, ground := Ground.phase }, { on := 14, ground := Ground.phase }, { on := 15, ground := Ground.phase }, { on := 16, ground := Ground.phase }, { on := 17, ground := Ground.phase }, { on := 18, ground := Ground.phase }, { on := 19, ground := Ground.phase }, { on := 20, ground := Ground.phase }, { on := 21, ground := Ground.phase }, { on := 22, ground := Ground.phase }], guard := none }] true).wp Try.prog Q a0 w0 := by
  have hS : distS [some 14, some 15, some 16, some 17, some 18, some 19, some 20, some 21, some 22, some 23, some 24, some 25, some 26, some 27, some 28, some 29, some 30, some 31, some 32, some 33, some 34, some 35, none, none] = true := rfl
  refine wp_region_inv (by kernel_rfl) (JbxB R0 R1 A4 A5 x y r s w0 a0) ⟨⟨rfl, rfl, rfl, fun _ _ => rfl, (Below.refl _ w0).drew, fun j d hj => ?_, fun j hj => ?_⟩, hs0⟩ ?_ ?_
  · exfalso
    rw [Array.getD_eq_getD_getElem?, Array.getElem?_replicate] at hj
    split at hj <;> simp at hj
  · exfalso
    rw [Array.getD_eq_getD_getElem?, Array.getElem?_replicate] at hj
    split at hj <;> simp at hj
  · intro lq aq W iq oq ⟨hJ, hs⟩ hl ho hall
    have hJ2 := hJ
    obtain ⟨z1, z2, z3, z4, z5, z6, z7⟩ := hJ
    obtain ⟨xa, xb, ⟨pa, qa, ipa, iqa, xc⟩, pb, qb, ipb, iqb, xd⟩ := hs
    have ca0 := xa.c 0 rfl; have ca1 := xa.c 1 rfl; have cb0 := xb.c 0 rfl; have cb1 := xb.c 1 rfl
    have rc0 := xc.c 0 rfl; have sc0 := xc.f 0 rfl; have rc1 := xc.c 1 rfl; have sc1 := xc.f 1 rfl; have rlc := xc.lt
    have rd0 := xd.c 0 rfl; have sd0 := xd.f 0 rfl; have rd1 := xd.c 1 rfl; have sd1 := xd.f 1 rfl; have rld := xd.lt
    have hs : SbxB R0 R1 A4 A5 x y r s W := ⟨xa, xb, ⟨pa, qa, ipa, iqa, xc⟩, pb, qb, ipb, iqb, xd⟩
    have g4 : aq.tmps.getD 4 undef = .pointer (some ⟨A4, 0, none⟩) := by rw [Array.getD_eq_getD_getElem?, z4 4 (by decide), h4]; rfl
    have g5 : aq.tmps.getD 5 undef = .pointer (some ⟨A5, 0, none⟩) := by rw [Array.getD_eq_getD_getElem?, z4 5 (by decide), h5]; rfl
    have g2 : aq.tmps.getD 2 undef = .pointer (some ⟨R0, 0, none⟩) := by rw [Array.getD_eq_getD_getElem?, z4 2 (by decide), h2]; rfl
    have g3 : aq.tmps.getD 3 undef = .pointer (some ⟨R1, 0, none⟩) := by rw [Array.getD_eq_getD_getElem?, z4 3 (by decide), h3]; rfl
    match iq, ho with
    | 0, ho =>
      cases ho
      refine wpOp_of rfl rfl ?_
      have hK := fun (v : Value) (W2 : World) hW hT hv (hs : SbxB R0 R1 A4 A5 x y r s W2) => show (JbxB R0 R1 A4 A5 x y r s w0 a0) (lq.setIfInBounds 0 true) (aq.put (some 14) v) W2 from ⟨hJ2.put hS 0 14 rfl (by omega) (W' := W2) hW hT v hv, hs⟩
      clear ho hall hl hQ
      generalize (JbxB R0 R1 A4 A5 x y r s w0 a0) (lq.setIfInBounds 0 true) = K at hK ⊢
      clear hJ2 hS z1 z2 z3 z4 z6 z7
      go_simp
      exact hK _ _ z5 (fun _ _ h => h) rfl hs
    | 1, ho =>
      cases ho
      refine wpOp_of rfl rfl ?_
      have f0 : (aq.tmps.getD 14 undef) = .pointer (some ⟨A4, 0, none⟩) := z6 0 14 (hall { on := 0, ground := Ground.data } (by simp) rfl) rfl
      have hK := fun (v : Value) (W2 : World) hW hT hv (hs : SbxB R0 R1 A4 A5 x y r s W2) => show (JbxB R0 R1 A4 A5 x y r s w0 a0) (lq.setIfInBounds 1 true) (aq.put (some 15) v) W2 from ⟨hJ2.put hS 1 15 rfl (by omega) (W' := W2) hW hT v hv, hs⟩
      clear ho hall hl hQ
      generalize (JbxB R0 R1 A4 A5 x y r s w0 a0) (lq.setIfInBounds 1 true) = K at hK ⊢
      clear hJ2 hS z1 z2 z3 z4 z6 z7
      go_simp
      exact hK _ _ z5 (fun _ _ h => h) rfl hs
    | 2, ho =>
      cases ho
      refine wpOp_of rfl rfl ?_
      have hK := fun (v : Value) (W2 : World) hW hT hv (hs : SbxB R0 R1 A4 A5 x y r s W2) => show (JbxB R0 R1 A4 A5 x y r s w0 a0) (lq.setIfInBounds 2 true) (aq.put (some 16) v) W2 from ⟨hJ2.put hS 2 16 rfl (by omega) (W' := W2) hW hT v hv, hs⟩
      clear ho hall hl hQ
      generalize (JbxB R0 R1 A4 A5 x y r s w0 a0) (lq.setIfInBounds 2 true) = K at hK ⊢
      clear hJ2 hS z1 z2 z3 z4 z6 z7
      go_simp
      exact hK _ _ z5 (fun _ _ h => h) rfl hs
    | 3, ho =>
      cases ho
      refine wpOp_of rfl rfl ?_
      have f2 : (aq.tmps.getD 16 undef) = .pointer (some ⟨A5, 0, none⟩) := z6 2 16 (hall { on := 2, ground := Ground.data } (by simp) rfl) rfl
      have hK := fun (v : Value) (W2 : World) hW hT hv (hs : SbxB R0 R1 A4 A5 x y r s W2) => show (JbxB R0 R1 A4 A5 x y r s w0 a0) (lq.setIfInBounds 3 true) (aq.put (some 17) v) W2 from ⟨hJ2.put hS 3 17 rfl (by omega) (W' := W2) hW hT v hv, hs⟩
      clear ho hall hl hQ
      generalize (JbxB R0 R1 A4 A5 x y r s w0 a0) (lq.setIfInBounds 3 true) = K at hK ⊢
      clear hJ2 hS z1 z2 z3 z4 z6 z7
      go_simp
      exact hK _ _ z5 (fun _ _ h => h) rfl hs
    | 4, ho =>
      cases ho
      refine wpOp_of rfl rfl ?_
      have f1 : (aq.tmps.getD 15 undef) = .int .i64 x := z6 1 15 (hall { on := 1, ground := Ground.data } (by simp) rfl) rfl
      have f3 : (aq.tmps.getD 17 undef) = .int .i64 r := z6 3 17 (hall { on := 3, ground := Ground.data } (by simp) rfl) rfl
      have hK := fun (v : Value) (W2 : World) hW hT hv (hs : SbxB R0 R1 A4 A5 x y r s W2) => show (JbxB R0 R1 A4 A5 x y r s w0 a0) (lq.setIfInBounds 4 true) (aq.put (some 18) v) W2 from ⟨hJ2.put hS 4 18 rfl (by omega) (W' := W2) hW hT v hv, hs⟩
      clear ho hall hl hQ
      generalize (JbxB R0 R1 A4 A5 x y r s w0 a0) (lq.setIfInBounds 4 true) = K at hK ⊢
      clear hJ2 hS z1 z2 z3 z4 z6 z7
      go_simp
      exact hK _ _ z5 (fun _ _ h => h) rfl hs
    | 5, ho =>
      cases ho
      refine wpOp_of rfl rfl ?_
      have hK := fun (v : Value) (W2 : World) hW hT hv (hs : SbxB R0 R1 A4 A5 x y r s W2) => show (JbxB R0 R1 A4 A5 x y r s w0 a0) (lq.setIfInBounds 5 true) (aq.put (some 19) v) W2 from ⟨hJ2.put hS 5 19 rfl (by omega) (W' := W2) hW hT v hv, hs⟩
      clear ho hall hl hQ
      generalize (JbxB R0 R1 A4 A5 x y r s w0 a0) (lq.setIfInBounds 5 true) = K at hK ⊢
      clear hJ2 hS z1 z2 z3 z4 z6 z7
      go_simp
      exact hK _ _ z5 (fun _ _ h => h) rfl hs
    | 6, ho =>
      cases ho
      refine wpOp_of rfl rfl ?_
      have f5 : (aq.tmps.getD 19 undef) = .pointer (some ⟨A4, 1, none⟩) := z6 5 19 (hall { on := 5, ground := Ground.data } (by simp) rfl) rfl
      have hK := fun (v : Value) (W2 : World) hW hT hv (hs : SbxB R0 R1 A4 A5 x y r s W2) => show (JbxB R0 R1 A4 A5 x y r s w0 a0) (lq.setIfInBounds 6 true) (aq.put (some 20) v) W2 from ⟨hJ2.put hS 6 20 rfl (by omega) (W' := W2) hW hT v hv, hs⟩
      clear ho hall hl hQ
      generalize (JbxB R0 R1 A4 A5 x y r s w0 a0) (lq.setIfInBounds 6 true) = K at hK ⊢
      clear hJ2 hS z1 z2 z3 z4 z6 z7
      go_simp
      exact hK _ _ z5 (fun _ _ h => h) rfl hs
    | 7, ho =>
      cases ho
      refine wpOp_of rfl rfl ?_
      have hK := fun (v : Value) (W2 : World) hW hT hv (hs : SbxB R0 R1 A4 A5 x y r s W2) => show (JbxB R0 R1 A4 A5 x y r s w0 a0) (lq.setIfInBounds 7 true) (aq.put (some 21) v) W2 from ⟨hJ2.put hS 7 21 rfl (by omega) (W' := W2) hW hT v hv, hs⟩
      clear ho hall hl hQ
      generalize (JbxB R0 R1 A4 A5 x y r s w0 a0) (lq.setIfInBounds 7 true) = K at hK ⊢
      clear hJ2 hS z1 z2 z3 z4 z6 z7
      go_simp
      exact hK _ _ z5 (fun _ _ h => h) rfl hs
    | 8, ho =>
      cases ho
      refine wpOp_of rfl rfl ?_
      have f7 : (aq.tmps.getD 21 undef) = .pointer (some ⟨A5, 1, none⟩) := z6 7 21 (hall { on := 7, ground := Ground.data } (by simp) rfl) rfl
      have hK := fun (v : Value) (W2 : World) hW hT hv (hs : SbxB R0 R1 A4 A5 x y r s W2) => show (JbxB R0 R1 A4 A5 x y r s w0 a0) (lq.setIfInBounds 8 true) (aq.put (some 22) v) W2 from ⟨hJ2.put hS 8 22 rfl (by omega) (W' := W2) hW hT v hv, hs⟩
      clear ho hall hl hQ
      generalize (JbxB R0 R1 A4 A5 x y r s w0 a0) (lq.setIfInBounds 8 true) = K at hK ⊢
      clear hJ2 hS z1 z2 z3 z4 z6 z7
      go_simp
      exact hK _ _ z5 (fun _ _ h => h) rfl hs
    | 9, ho =>
      cases ho
      refine wpOp_of rfl rfl ?_
      have f6 : (aq.tmps.getD 20 undef) = .int .i64 y := z6 6 20 (hall { on := 6, ground := Ground.data } (by simp) rfl) rfl
      have f8 : (aq.tmps.getD 22 undef) = .int .i64 s := z6 8 22 (hall { on := 8, ground := Ground.data } (by simp) rfl) rfl
      have hK := fun (v : Value) (W2 : World) hW hT hv (hs : SbxB R0 R1 A4 A5 x y r s W2) => show (JbxB R0 R1 A4 A5 x y r s w0 a0) (lq.setIfInBounds 9 true) (aq.put (some 23) v) W2 from ⟨hJ2.put hS 9 23 rfl (by omega) (W' := W2) hW hT v hv, hs⟩
      clear ho hall hl hQ
      generalize (JbxB R0 R1 A4 A5 x y r s w0 a0) (lq.setIfInBounds 9 true) = K at hK ⊢
      clear hJ2 hS z1 z2 z3 z4 z6 z7
      go_simp
      exact hK _ _ z5 (fun _ _ h => h) rfl hs
    | 10, ho =>
      cases ho
      refine wpOp_of rfl rfl ?_
      have f4 : (aq.tmps.getD 18 undef) = .int .i64 (min x r) := z6 4 18 (hall { on := 4, ground := Ground.data } (by simp) rfl) rfl
      have f9 : (aq.tmps.getD 23 undef) = .int .i64 (min y s) := z6 9 23 (hall { on := 9, ground := Ground.data } (by simp) rfl) rfl
      rw [Array.getD_eq_getD_getElem?] at f4 f9
      have hK := fun (v : Value) (W2 : World) hW hT hv (hs : SbxB R0 R1 A4 A5 x y r s W2) => show (JbxB R0 R1 A4 A5 x y r s w0 a0) (lq.setIfInBounds 10 true) (aq.put (some 24) v) W2 from ⟨hJ2.put hS 10 24 rfl (by omega) (W' := W2) hW hT v hv, hs⟩
      clear ho hall hl hQ
      generalize (JbxB R0 R1 A4 A5 x y r s w0 a0) (lq.setIfInBounds 10 true) = K at hK ⊢
      clear hJ2 hS z1 z2 z3 z4 z6 z7
      go_simp
      exact hK _ _ z5 (fun _ _ h => h) rfl hs
    | 11, ho =>
      cases ho
      refine wpOp_of rfl rfl ?_
      have hK := fun (v : Value) (W2 : World) hW hT hv (hs : SbxB R0 R1 A4 A5 x y r s W2) => show (JbxB R0 R1 A4 A5 x y r s w0 a0) (lq.setIfInBounds 11 true) (aq.put (some 25) v) W2 from ⟨hJ2.put hS 11 25 rfl (by omega) (W' := W2) hW hT v hv, hs⟩
      clear ho hall hl hQ
      generalize (JbxB R0 R1 A4 A5 x y r s w0 a0) (lq.setIfInBounds 11 true) = K at hK ⊢
      clear hJ2 hS z1 z2 z3 z4 z6 z7
      go_simp
      exact hK _ _ z5 (fun _ _ h => h) rfl hs
    | 12, ho =>
      cases ho
      refine wpOp_of rfl rfl ?_
      have f11 : (aq.tmps.getD 25 undef) = .pointer (some ⟨A4, 0, none⟩) := z6 11 25 (hall { on := 11, ground := Ground.data } (by simp) rfl) rfl
      have hK := fun (v : Value) (W2 : World) hW hT hv (hs : SbxB R0 R1 A4 A5 x y r s W2) => show (JbxB R0 R1 A4 A5 x y r s w0 a0) (lq.setIfInBounds 12 true) (aq.put (some 26) v) W2 from ⟨hJ2.put hS 12 26 rfl (by omega) (W' := W2) hW hT v hv, hs⟩
      clear ho hall hl hQ
      generalize (JbxB R0 R1 A4 A5 x y r s w0 a0) (lq.setIfInBounds 12 true) = K at hK ⊢
      clear hJ2 hS z1 z2 z3 z4 z6 z7
      go_simp
      exact hK _ _ z5 (fun _ _ h => h) rfl hs
    | 13, ho =>
      cases ho
      refine wpOp_of rfl rfl ?_
      have hK := fun (v : Value) (W2 : World) hW hT hv (hs : SbxB R0 R1 A4 A5 x y r s W2) => show (JbxB R0 R1 A4 A5 x y r s w0 a0) (lq.setIfInBounds 13 true) (aq.put (some 27) v) W2 from ⟨hJ2.put hS 13 27 rfl (by omega) (W' := W2) hW hT v hv, hs⟩
      clear ho hall hl hQ
      generalize (JbxB R0 R1 A4 A5 x y r s w0 a0) (lq.setIfInBounds 13 true) = K at hK ⊢
      clear hJ2 hS z1 z2 z3 z4 z6 z7
      go_simp
      exact hK _ _ z5 (fun _ _ h => h) rfl hs
    | 14, ho =>
      cases ho
      refine wpOp_of rfl rfl ?_
      have f13 : (aq.tmps.getD 27 undef) = .pointer (some ⟨A5, 0, none⟩) := z6 13 27 (hall { on := 13, ground := Ground.data } (by simp) rfl) rfl
      have hK := fun (v : Value) (W2 : World) hW hT hv (hs : SbxB R0 R1 A4 A5 x y r s W2) => show (JbxB R0 R1 A4 A5 x y r s w0 a0) (lq.setIfInBounds 14 true) (aq.put (some 28) v) W2 from ⟨hJ2.put hS 14 28 rfl (by omega) (W' := W2) hW hT v hv, hs⟩
      clear ho hall hl hQ
      generalize (JbxB R0 R1 A4 A5 x y r s w0 a0) (lq.setIfInBounds 14 true) = K at hK ⊢
      clear hJ2 hS z1 z2 z3 z4 z6 z7
      go_simp
      exact hK _ _ z5 (fun _ _ h => h) rfl hs
    | 15, ho =>
      cases ho
      refine wpOp_of rfl rfl ?_
      have f12 : (aq.tmps.getD 26 undef) = .int .i64 x := z6 12 26 (hall { on := 12, ground := Ground.data } (by simp) rfl) rfl
      have f14 : (aq.tmps.getD 28 undef) = .int .i64 r := z6 14 28 (hall { on := 14, ground := Ground.data } (by simp) rfl) rfl
      have hK := fun (v : Value) (W2 : World) hW hT hv (hs : SbxB R0 R1 A4 A5 x y r s W2) => show (JbxB R0 R1 A4 A5 x y r s w0 a0) (lq.setIfInBounds 15 true) (aq.put (some 29) v) W2 from ⟨hJ2.put hS 15 29 rfl (by omega) (W' := W2) hW hT v hv, hs⟩
      clear ho hall hl hQ
      generalize (JbxB R0 R1 A4 A5 x y r s w0 a0) (lq.setIfInBounds 15 true) = K at hK ⊢
      clear hJ2 hS z1 z2 z3 z4 z6 z7
      go_simp
      exact hK _ _ z5 (fun _ _ h => h) rfl hs
    | 16, ho =>
      cases ho
      refine wpOp_of rfl rfl ?_
      have hK := fun (v : Value) (W2 : World) hW hT hv (hs : SbxB R0 R1 A4 A5 x y r s W2) => show (JbxB R0 R1 A4 A5 x y r s w0 a0) (lq.setIfInBounds 16 true) (aq.put (some 30) v) W2 from ⟨hJ2.put hS 16 30 rfl (by omega) (W' := W2) hW hT v hv, hs⟩
      clear ho hall hl hQ
      generalize (JbxB R0 R1 A4 A5 x y r s w0 a0) (lq.setIfInBounds 16 true) = K at hK ⊢
      clear hJ2 hS z1 z2 z3 z4 z6 z7
      go_simp
      exact hK _ _ z5 (fun _ _ h => h) rfl hs
    | 17, ho =>
      cases ho
      refine wpOp_of rfl rfl ?_
      have f16 : (aq.tmps.getD 30 undef) = .pointer (some ⟨A4, 1, none⟩) := z6 16 30 (hall { on := 16, ground := Ground.data } (by simp) rfl) rfl
      have hK := fun (v : Value) (W2 : World) hW hT hv (hs : SbxB R0 R1 A4 A5 x y r s W2) => show (JbxB R0 R1 A4 A5 x y r s w0 a0) (lq.setIfInBounds 17 true) (aq.put (some 31) v) W2 from ⟨hJ2.put hS 17 31 rfl (by omega) (W' := W2) hW hT v hv, hs⟩
      clear ho hall hl hQ
      generalize (JbxB R0 R1 A4 A5 x y r s w0 a0) (lq.setIfInBounds 17 true) = K at hK ⊢
      clear hJ2 hS z1 z2 z3 z4 z6 z7
      go_simp
      exact hK _ _ z5 (fun _ _ h => h) rfl hs
    | 18, ho =>
      cases ho
      refine wpOp_of rfl rfl ?_
      have hK := fun (v : Value) (W2 : World) hW hT hv (hs : SbxB R0 R1 A4 A5 x y r s W2) => show (JbxB R0 R1 A4 A5 x y r s w0 a0) (lq.setIfInBounds 18 true) (aq.put (some 32) v) W2 from ⟨hJ2.put hS 18 32 rfl (by omega) (W' := W2) hW hT v hv, hs⟩
      clear ho hall hl hQ
      generalize (JbxB R0 R1 A4 A5 x y r s w0 a0) (lq.setIfInBounds 18 true) = K at hK ⊢
      clear hJ2 hS z1 z2 z3 z4 z6 z7
      go_simp
      exact hK _ _ z5 (fun _ _ h => h) rfl hs
    | 19, ho =>
      cases ho
      refine wpOp_of rfl rfl ?_
      have f18 : (aq.tmps.getD 32 undef) = .pointer (some ⟨A5, 1, none⟩) := z6 18 32 (hall { on := 18, ground := Ground.data } (by simp) rfl) rfl
      have hK := fun (v : Value) (W2 : World) hW hT hv (hs : SbxB R0 R1 A4 A5 x y r s W2) => show (JbxB R0 R1 A4 A5 x y r s w0 a0) (lq.setIfInBounds 19 true) (aq.put (some 33) v) W2 from ⟨hJ2.put hS 19 33 rfl (by omega) (W' := W2) hW hT v hv, hs⟩
      clear ho hall hl hQ
      generalize (JbxB R0 R1 A4 A5 x y r s w0 a0) (lq.setIfInBounds 19 true) = K at hK ⊢
      clear hJ2 hS z1 z2 z3 z4 z6 z7
      go_simp
      exact hK _ _ z5 (fun _ _ h => h) rfl hs
    | 20, ho =>
      cases ho
      refine wpOp_of rfl rfl ?_
      have f17 : (aq.tmps.getD 31 undef) = .int .i64 y := z6 17 31 (hall { on := 17, ground := Ground.data } (by simp) rfl) rfl
      have f19 : (aq.tmps.getD 33 undef) = .int .i64 s := z6 19 33 (hall { on := 19, ground := Ground.data } (by simp) rfl) rfl
      have hK := fun (v : Value) (W2 : World) hW hT hv (hs : SbxB R0 R1 A4 A5 x y r s W2) => show (JbxB R0 R1 A4 A5 x y r s w0 a0) (lq.setIfInBounds 20 true) (aq.put (some 34) v) W2 from ⟨hJ2.put hS 20 34 rfl (by omega) (W' := W2) hW hT v hv, hs⟩
      clear ho hall hl hQ
      generalize (JbxB R0 R1 A4 A5 x y r s w0 a0) (lq.setIfInBounds 20 true) = K at hK ⊢
      clear hJ2 hS z1 z2 z3 z4 z6 z7
      go_simp
      exact hK _ _ z5 (fun _ _ h => h) rfl hs
    | 21, ho =>
      cases ho
      refine wpOp_of rfl rfl ?_
      have f15 : (aq.tmps.getD 29 undef) = .int .i64 (max x r) := z6 15 29 (hall { on := 15, ground := Ground.data } (by simp) rfl) rfl
      have f20 : (aq.tmps.getD 34 undef) = .int .i64 (max y s) := z6 20 34 (hall { on := 20, ground := Ground.data } (by simp) rfl) rfl
      rw [Array.getD_eq_getD_getElem?] at f15 f20
      have hK := fun (v : Value) (W2 : World) hW hT hv (hs : SbxB R0 R1 A4 A5 x y r s W2) => show (JbxB R0 R1 A4 A5 x y r s w0 a0) (lq.setIfInBounds 21 true) (aq.put (some 35) v) W2 from ⟨hJ2.put hS 21 35 rfl (by omega) (W' := W2) hW hT v hv, hs⟩
      clear ho hall hl hQ
      generalize (JbxB R0 R1 A4 A5 x y r s w0 a0) (lq.setIfInBounds 21 true) = K at hK ⊢
      clear hJ2 hS z1 z2 z3 z4 z6 z7
      go_simp
      exact hK _ _ z5 (fun _ _ h => h) rfl hs
    | 22, ho =>
      cases ho
      refine wpOp_of rfl rfl ?_
      have f10 : (aq.tmps.getD 24 undef) = .agg #[.int .i64 (min x r), .int .i64 (min y s)] := z6 10 24 (hall { on := 10, ground := Ground.data } (by simp) rfl) rfl
      have hK := fun (W2 : World) hW hT hv (hs : SbxB R0 R1 A4 A5 x y r s W2) => show (JbxB R0 R1 A4 A5 x y r s w0 a0) (lq.setIfInBounds 22 true) aq W2 from ⟨hJ2.world 22 rfl (W' := W2) hW hT hv, hs⟩
      clear ho hall hl hQ
      generalize (JbxB R0 R1 A4 A5 x y r s w0 a0) (lq.setIfInBounds 22 true) = K at hK ⊢
      clear hJ2 hS z1 z2 z3 z4 z6 z7
      have nb : Blk ((W.setCell ⟨R0, 0, none⟩ (.int .i64 (min x r))).setCell ⟨R0, 1, none⟩ (.int .i64 (min y s))) R0 [.int .i64 (min x r), .int .i64 (min y s)] := (xc.setI 0 (by simp) _).setI 1 (by simp) _
      have ns : SbxB R0 R1 A4 A5 x y r s ((W.setCell ⟨R0, 0, none⟩ (.int .i64 (min x r))).setCell ⟨R0, 1, none⟩ (.int .i64 (min y s))) := ⟨(xa.setO (p := ⟨R0, 0, none⟩) (by show _ ≠ R0; omega) _).setO (p := ⟨R0, 1, none⟩) (by show _ ≠ R0; omega) _, (xb.setO (p := ⟨R0, 0, none⟩) (by show _ ≠ R0; omega) _).setO (p := ⟨R0, 1, none⟩) (by show _ ≠ R0; omega) _, ⟨_, _, hx.min hr, hy.min hs', nb⟩, pb, qb, ipb, iqb, (xd.setO (p := ⟨R0, 0, none⟩) (by show _ ≠ R0; omega) _).setO (p := ⟨R0, 1, none⟩) (by show _ ≠ R0; omega) _⟩
      have nB : Below R0 w0 ((W.setCell ⟨R0, 0, none⟩ (.int .i64 (min x r))).setCell ⟨R0, 1, none⟩ (.int .i64 (min y s))) := (z5.setCell (p := ⟨R0, 0, none⟩) (Nat.le_refl _) _).setCell (p := ⟨R0, 1, none⟩) (Nat.le_refl _) _
      clear xa xb xc xd nb
      go_simp
      exact hK _ nB (fun _ _ h => VbxB.same h) trivial ns
    | 23, ho =>
      cases ho
      refine wpOp_of rfl rfl ?_
      have f21 : (aq.tmps.getD 35 undef) = .agg #[.int .i64 (max x r), .int .i64 (max y s)] := z6 21 35 (hall { on := 21, ground := Ground.data } (by simp) rfl) rfl
      have hK := fun (W2 : World) hW hT hv (hs : SbxB R0 R1 A4 A5 x y r s W2) => show (JbxB R0 R1 A4 A5 x y r s w0 a0) (lq.setIfInBounds 23 true) aq W2 from ⟨hJ2.world 23 rfl (W' := W2) hW hT hv, hs⟩
      clear ho hall hl hQ
      generalize (JbxB R0 R1 A4 A5 x y r s w0 a0) (lq.setIfInBounds 23 true) = K at hK ⊢
      clear hJ2 hS z1 z2 z3 z4 z6 z7
      have nb : Blk ((W.setCell ⟨R1, 0, none⟩ (.int .i64 (max x r))).setCell ⟨R1, 1, none⟩ (.int .i64 (max y s))) R1 [.int .i64 (max x r), .int .i64 (max y s)] := (xd.setI 0 (by simp) _).setI 1 (by simp) _
      have ns : SbxB R0 R1 A4 A5 x y r s ((W.setCell ⟨R1, 0, none⟩ (.int .i64 (max x r))).setCell ⟨R1, 1, none⟩ (.int .i64 (max y s))) := ⟨(xa.setO (p := ⟨R1, 0, none⟩) (by show _ ≠ R1; omega) _).setO (p := ⟨R1, 1, none⟩) (by show _ ≠ R1; omega) _, (xb.setO (p := ⟨R1, 0, none⟩) (by show _ ≠ R1; omega) _).setO (p := ⟨R1, 1, none⟩) (by show _ ≠ R1; omega) _, ⟨pa, qa, ipa, iqa, (xc.setO (p := ⟨R1, 0, none⟩) (by show _ ≠ R1; omega) _).setO (p := ⟨R1, 1, none⟩) (by show _ ≠ R1; omega) _⟩, _, _, hx.max hr, hy.max hs', nb⟩
      have nB : Below R0 w0 ((W.setCell ⟨R1, 0, none⟩ (.int .i64 (max x r))).setCell ⟨R1, 1, none⟩ (.int .i64 (max y s))) := (z5.setCell (p := ⟨R1, 0, none⟩) (Nat.le_of_lt n01) _).setCell (p := ⟨R1, 1, none⟩) (Nat.le_of_lt n01) _
      clear xa xb xc xd nb
      go_simp
      exact hK _ nB (fun _ _ h => VbxB.same h) trivial ns
    | iq + 24, ho => simp at ho
  · intro lq aq W ⟨hJ, hs⟩ hr
    obtain ⟨z1, z2, z3, z4, z5, z6, z7⟩ := hJ
    exact hQ aq W z2 z3 (fun e he => z4 e (by simpa using he))  z5 hs
def VdwR (_R0 _R1 _A4 _A5 : Nat) (x y r s : Int) (_Bs : Nat) (rv : Value) (_c : Nat) (_Lz : List Int) (_B : Nat) : Nat → Value → World → Prop
  | 0, v, _ => v = rv
  | 1, v, _ => v = .agg #[.int .i64 x, .int .i64 y]
  | 2, v, _ => v = .agg #[.int .i64 r, .int .i64 s]
  | 3, v, _ => v = rv
  | _, _, _ => True
theorem VdwR.mono {R0 R1 A4 A5 : Nat} {x y r s : Int} {Bs : Nat} {rv : Value} {c : Nat} {Lz : List Int} {B j : Nat} {v : Value} {W W2 : World} (_hB : Below W.heap.size W W2) (h : VdwR R0 R1 A4 A5 x y r s Bs rv c Lz B j v W) : VdwR R0 R1 A4 A5 x y r s Bs rv c Lz B j v W2 := by
  unfold VdwR at *
  split <;> simp only at h <;> first | exact h | trivial
theorem VdwR.same {R0 R1 A4 A5 : Nat} {x y r s : Int} {Bs : Nat} {rv : Value} {c : Nat} {Lz : List Int} {B j : Nat} {v : Value} {W W2 : World} (h : VdwR R0 R1 A4 A5 x y r s Bs rv c Lz B j v W) : VdwR R0 R1 A4 A5 x y r s Bs rv c Lz B j v W2 := by
  unfold VdwR at *
  split <;> simp only at h <;> first | exact h | trivial
def SdwR (R0 R1 A4 A5 : Nat) (x y r s : Int) (Bs : Nat) (rv : Value) (c : Nat) (Lz : List Int) (W : World) : Prop := Blk W A4 [.int .i64 x, .int .i64 y] ∧ Blk W A5 [.int .i64 r, .int .i64 s] ∧ SgRow W Bs rv c Lz ∧ (∃ p q : Int, Sm p ∧ Sm q ∧ Blk W R0 [.int .i64 p, .int .i64 q]) ∧ ∃ p q : Int, Sm p ∧ Sm q ∧ Blk W R1 [.int .i64 p, .int .i64 q]
def JdwR (R0 R1 A4 A5 : Nat) (x y r s : Int) (Bs : Nat) (rv : Value) (c : Nat) (Lz : List Int) (w0 : World) (a0 : Act) (lz : Array Bool) (az : Act) (W : World) : Prop := InvQ (R0) [some 18, some 19, some 20, some 2, none, none] (VdwR R0 R1 A4 A5 x y r s Bs rv c Lz (R0)) w0 a0 lz az W ∧ SdwR R0 R1 A4 A5 x y r s Bs rv c Lz W
set_option maxRecDepth 100000 in
set_option maxHeartbeats 4000000 in
theorem dwR {Q : Exit → Act → World → Prop} {R0 R1 A4 A5 : Nat} {x y r s : Int} {Bs : Nat} {rv : Value} {c : Nat} {Lz : List Int}  {w0 : World} {a0 : Act} {idq : Nat} {t0 t1 t2 t3 t4 t5 : TypeId} {q0 q1 q2 q3 q4 q5 : String}
    (n01 : R0 < R1) (n40 : R1 < A4) (n50 : R1 < A5) (hx : Sm x) (hy : Sm y) (hr : Sm r) (hs' : Sm s) (hBs : R1 < Bs) (h7 : a0.tmps[7]? = some (.pointer (some ⟨A4, 0, none⟩))) (h8 : a0.tmps[8]? = some (.pointer (some ⟨A5, 0, none⟩))) (h3 : a0.tmps[3]? = some (.pointer (some ⟨R0, 0, none⟩))) (h4 : a0.tmps[4]? = some (.pointer (some ⟨R1, 0, none⟩))) (h6 : a0.tmps[6]? = some (rv))  (hz : a0.tmps.size = 21) (hs0 : SdwR R0 R1 A4 A5 x y r s Bs rv c Lz w0.drew)
    (hQ : ∀ aq W, aq.tmps.size = a0.tmps.size → aq.defers = a0.defers → (∀ e, e ∉ ([18, 19, 20, 2] : List Nat) → aq.tmps[e]? = a0.tmps[e]?) → VdwR R0 R1 A4 A5 x y r s Bs rv c Lz (R0) 3 (aq.tmps.getD 2 undef) W → Below (R0) w0 W → SdwR R0 R1 A4 A5 x y r s Bs rv c Lz W → Q .normal aq W) :
    (Code.region idq #[{ dst := some 18, op := Op.move (Operand.tmp 6), type := t0, pos := q0, after := #[], guard := none },
    { dst := some 19, op := Op.load 26 (Operand.tmp 7), type := t1, pos := q1, after := #[{ on := 3, ground := Ground.gcOnly Departure.lateStores }], guard := none },
    { dst := some 20, op := Op.load 26 (Operand.tmp 8), type := t2, pos := q2, after := #[{ on := 4, ground := Ground.gcOnly Departure.lateStores }], guard := none },
    { dst := some 2, op := Op.assign (Operand.tmp 18), type := t3, pos := q3, after := #[{ on := 0, ground := Ground.data }, { on := 0, ground := Ground.phase }, { on := 1, ground := Ground.textOnly Departure.lateStores }, { on := 2, ground := Ground.textOnly Departure.lateStores }], guard := none },
    { dst := none, op := Op.store 26 (Operand.tmp 3) (Operand.tmp 19), type := t4, pos := q4, after := #[{ on := 1, ground := Ground.data }, { on := 3, ground := Ground.chain }, { on := 0, ground := Ground.phase }, { on := 1, ground := Ground.phase }, { on := 2, ground := Ground.textOnly Departure.lateStores }, { on := 3, ground := Ground.phase }], guard := none },
    { dst := none, op := Op.store 26 (Operand.tmp 4) (Operand.tmp 20), type := t5, pos := q5, after := #[{ on := 2, ground := Ground.data }, { on := 4, ground := Ground.chain }, { on := 0, ground := Ground.phase }, { on := 1, ground := Ground.phase }, { on := 2, ground := Ground.phase }, { on := 3, ground := Ground.phase }, { on := 4, ground := Ground.phase }], guard := none }] true).wp Try.prog Q a0 w0 := by
  have hS : distS [some 18, some 19, some 20, some 2, none, none] = true := rfl
  refine wp_region_inv (by kernel_rfl) (JdwR R0 R1 A4 A5 x y r s Bs rv c Lz w0 a0) ⟨⟨rfl, rfl, rfl, fun _ _ => rfl, (Below.refl _ w0).drew, fun j d hj => ?_, fun j hj => ?_⟩, hs0⟩ ?_ ?_
  · exfalso
    rw [Array.getD_eq_getD_getElem?, Array.getElem?_replicate] at hj
    split at hj <;> simp at hj
  · exfalso
    rw [Array.getD_eq_getD_getElem?, Array.getElem?_replicate] at hj
    split at hj <;> simp at hj
  · intro lq aq W iq oq ⟨hJ, hs⟩ hl ho hall
    have hJ2 := hJ
    obtain ⟨z1, z2, z3, z4, z5, z6, z7⟩ := hJ
    obtain ⟨xa, xb, xr, ⟨pa, qa, ipa, iqa, xc⟩, pb, qb, ipb, iqb, xd⟩ := hs
    have ca0 := xa.c 0 rfl; have ca1 := xa.c 1 rfl; have cb0 := xb.c 0 rfl; have cb1 := xb.c 1 rfl
    have rc0 := xc.c 0 rfl; have sc0 := xc.f 0 rfl; have rc1 := xc.c 1 rfl; have sc1 := xc.f 1 rfl; have rlc := xc.lt
    have rd0 := xd.c 0 rfl; have sd0 := xd.f 0 rfl; have rd1 := xd.c 1 rfl; have sd1 := xd.f 1 rfl; have rld := xd.lt
    have hs : SdwR R0 R1 A4 A5 x y r s Bs rv c Lz W := ⟨xa, xb, xr, ⟨pa, qa, ipa, iqa, xc⟩, pb, qb, ipb, iqb, xd⟩
    have g7 : aq.tmps.getD 7 undef = .pointer (some ⟨A4, 0, none⟩) := by rw [Array.getD_eq_getD_getElem?, z4 7 (by decide), h7]; rfl
    have g8 : aq.tmps.getD 8 undef = .pointer (some ⟨A5, 0, none⟩) := by rw [Array.getD_eq_getD_getElem?, z4 8 (by decide), h8]; rfl
    have g3 : aq.tmps.getD 3 undef = .pointer (some ⟨R0, 0, none⟩) := by rw [Array.getD_eq_getD_getElem?, z4 3 (by decide), h3]; rfl
    have g4 : aq.tmps.getD 4 undef = .pointer (some ⟨R1, 0, none⟩) := by rw [Array.getD_eq_getD_getElem?, z4 4 (by decide), h4]; rfl
    have g6 : aq.tmps.getD 6 undef = rv := by rw [Array.getD_eq_getD_getElem?, z4 6 (by decide), h6]; rfl
    match iq, ho with
    | 0, ho =>
      cases ho
      refine wpOp_of rfl rfl ?_
      have hK := fun (v : Value) (W2 : World) hW hT hv (hs : SdwR R0 R1 A4 A5 x y r s Bs rv c Lz W2) => show (JdwR R0 R1 A4 A5 x y r s Bs rv c Lz w0 a0) (lq.setIfInBounds 0 true) (aq.put (some 18) v) W2 from ⟨hJ2.put hS 0 18 rfl (by omega) (W' := W2) hW hT v hv, hs⟩
      clear ho hall hl hQ
      generalize (JdwR R0 R1 A4 A5 x y r s Bs rv c Lz w0 a0) (lq.setIfInBounds 0 true) = K at hK ⊢
      clear hJ2 hS z1 z2 z3 z4 z6 z7
      go_simp
      exact hK _ _ z5 (fun _ _ h => h) rfl hs
    | 1, ho =>
      cases ho
      refine wpOp_of rfl rfl ?_
      have hK := fun (v : Value) (W2 : World) hW hT hv (hs : SdwR R0 R1 A4 A5 x y r s Bs rv c Lz W2) => show (JdwR R0 R1 A4 A5 x y r s Bs rv c Lz w0 a0) (lq.setIfInBounds 1 true) (aq.put (some 19) v) W2 from ⟨hJ2.put hS 1 19 rfl (by omega) (W' := W2) hW hT v hv, hs⟩
      clear ho hall hl hQ
      generalize (JdwR R0 R1 A4 A5 x y r s Bs rv c Lz w0 a0) (lq.setIfInBounds 1 true) = K at hK ⊢
      clear hJ2 hS z1 z2 z3 z4 z6 z7
      go_simp
      exact hK _ _ z5 (fun _ _ h => h) rfl hs
    | 2, ho =>
      cases ho
      refine wpOp_of rfl rfl ?_
      have hK := fun (v : Value) (W2 : World) hW hT hv (hs : SdwR R0 R1 A4 A5 x y r s Bs rv c Lz W2) => show (JdwR R0 R1 A4 A5 x y r s Bs rv c Lz w0 a0) (lq.setIfInBounds 2 true) (aq.put (some 20) v) W2 from ⟨hJ2.put hS 2 20 rfl (by omega) (W' := W2) hW hT v hv, hs⟩
      clear ho hall hl hQ
      generalize (JdwR R0 R1 A4 A5 x y r s Bs rv c Lz w0 a0) (lq.setIfInBounds 2 true) = K at hK ⊢
      clear hJ2 hS z1 z2 z3 z4 z6 z7
      go_simp
      exact hK _ _ z5 (fun _ _ h => h) rfl hs
    | 3, ho =>
      cases ho
      refine wpOp_of rfl rfl ?_
      have f0 : (aq.tmps.getD 18 undef) = rv := z6 0 18 (hall { on := 0, ground := Ground.data } (by simp) rfl) rfl
      have hK := fun (v : Value) (W2 : World) hW hT hv (hs : SdwR R0 R1 A4 A5 x y r s Bs rv c Lz W2) => show (JdwR R0 R1 A4 A5 x y r s Bs rv c Lz w0 a0) (lq.setIfInBounds 3 true) (aq.put (some 2) v) W2 from ⟨hJ2.put hS 3 2 rfl (by omega) (W' := W2) hW hT v hv, hs⟩
      clear ho hall hl hQ
      generalize (JdwR R0 R1 A4 A5 x y r s Bs rv c Lz w0 a0) (lq.setIfInBounds 3 true) = K at hK ⊢
      clear hJ2 hS z1 z2 z3 z4 z6 z7
      go_simp
      exact hK _ _ z5 (fun _ _ h => h) rfl hs
    | 4, ho =>
      cases ho
      refine wpOp_of rfl rfl ?_
      have f1 : (aq.tmps.getD 19 undef) = .agg #[.int .i64 x, .int .i64 y] := z6 1 19 (hall { on := 1, ground := Ground.data } (by simp) rfl) rfl
      have hK := fun (W2 : World) hW hT hv (hs : SdwR R0 R1 A4 A5 x y r s Bs rv c Lz W2) => show (JdwR R0 R1 A4 A5 x y r s Bs rv c Lz w0 a0) (lq.setIfInBounds 4 true) aq W2 from ⟨hJ2.world 4 rfl (W' := W2) hW hT hv, hs⟩
      clear ho hall hl hQ
      generalize (JdwR R0 R1 A4 A5 x y r s Bs rv c Lz w0 a0) (lq.setIfInBounds 4 true) = K at hK ⊢
      clear hJ2 hS z1 z2 z3 z4 z6 z7
      have nb : Blk ((W.setCell ⟨R0, 0, none⟩ (.int .i64 x)).setCell ⟨R0, 1, none⟩ (.int .i64 y)) R0 [.int .i64 x, .int .i64 y] := (xc.setI 0 (by simp) _).setI 1 (by simp) _
      have ns : SdwR R0 R1 A4 A5 x y r s Bs rv c Lz ((W.setCell ⟨R0, 0, none⟩ (.int .i64 x)).setCell ⟨R0, 1, none⟩ (.int .i64 y)) := ⟨(xa.setO (p := ⟨R0, 0, none⟩) (by show _ ≠ R0; omega) _).setO (p := ⟨R0, 1, none⟩) (by show _ ≠ R0; omega) _, (xb.setO (p := ⟨R0, 0, none⟩) (by show _ ≠ R0; omega) _).setO (p := ⟨R0, 1, none⟩) (by show _ ≠ R0; omega) _, (xr.setO (p := ⟨R0, 0, none⟩) (fun k hk => by show k ≠ R0; have := (xr.own.lt k hk).1; omega) _).setO (p := ⟨R0, 1, none⟩) (fun k hk => by show k ≠ R0; have := (xr.own.lt k hk).1; omega) _, ⟨_, _, hx, hy, nb⟩, pb, qb, ipb, iqb, (xd.setO (p := ⟨R0, 0, none⟩) (by show _ ≠ R0; omega) _).setO (p := ⟨R0, 1, none⟩) (by show _ ≠ R0; omega) _⟩
      have nB : Below R0 w0 ((W.setCell ⟨R0, 0, none⟩ (.int .i64 x)).setCell ⟨R0, 1, none⟩ (.int .i64 y)) := (z5.setCell (p := ⟨R0, 0, none⟩) (Nat.le_refl _) _).setCell (p := ⟨R0, 1, none⟩) (Nat.le_refl _) _
      clear xa xb xc xd nb xr
      go_simp
      exact hK _ nB (fun _ _ h => VdwR.same h) trivial ns
    | 5, ho =>
      cases ho
      refine wpOp_of rfl rfl ?_
      have f2 : (aq.tmps.getD 20 undef) = .agg #[.int .i64 r, .int .i64 s] := z6 2 20 (hall { on := 2, ground := Ground.data } (by simp) rfl) rfl
      have hK := fun (W2 : World) hW hT hv (hs : SdwR R0 R1 A4 A5 x y r s Bs rv c Lz W2) => show (JdwR R0 R1 A4 A5 x y r s Bs rv c Lz w0 a0) (lq.setIfInBounds 5 true) aq W2 from ⟨hJ2.world 5 rfl (W' := W2) hW hT hv, hs⟩
      clear ho hall hl hQ
      generalize (JdwR R0 R1 A4 A5 x y r s Bs rv c Lz w0 a0) (lq.setIfInBounds 5 true) = K at hK ⊢
      clear hJ2 hS z1 z2 z3 z4 z6 z7
      have nb : Blk ((W.setCell ⟨R1, 0, none⟩ (.int .i64 r)).setCell ⟨R1, 1, none⟩ (.int .i64 s)) R1 [.int .i64 r, .int .i64 s] := (xd.setI 0 (by simp) _).setI 1 (by simp) _
      have ns : SdwR R0 R1 A4 A5 x y r s Bs rv c Lz ((W.setCell ⟨R1, 0, none⟩ (.int .i64 r)).setCell ⟨R1, 1, none⟩ (.int .i64 s)) := ⟨(xa.setO (p := ⟨R1, 0, none⟩) (by show _ ≠ R1; omega) _).setO (p := ⟨R1, 1, none⟩) (by show _ ≠ R1; omega) _, (xb.setO (p := ⟨R1, 0, none⟩) (by show _ ≠ R1; omega) _).setO (p := ⟨R1, 1, none⟩) (by show _ ≠ R1; omega) _, (xr.setO (p := ⟨R1, 0, none⟩) (fun k hk => by show k ≠ R1; have := (xr.own.lt k hk).1; omega) _).setO (p := ⟨R1, 1, none⟩) (fun k hk => by show k ≠ R1; have := (xr.own.lt k hk).1; omega) _, ⟨pa, qa, ipa, iqa, (xc.setO (p := ⟨R1, 0, none⟩) (by show _ ≠ R1; omega) _).setO (p := ⟨R1, 1, none⟩) (by show _ ≠ R1; omega) _⟩, _, _, hr, hs', nb⟩
      have nB : Below R0 w0 ((W.setCell ⟨R1, 0, none⟩ (.int .i64 r)).setCell ⟨R1, 1, none⟩ (.int .i64 s)) := (z5.setCell (p := ⟨R1, 0, none⟩) (Nat.le_of_lt n01) _).setCell (p := ⟨R1, 1, none⟩) (Nat.le_of_lt n01) _
      clear xa xb xc xd nb xr
      go_simp
      exact hK _ nB (fun _ _ h => VdwR.same h) trivial ns
    | iq + 6, ho => simp at ho
  · intro lq aq W ⟨hJ, hs⟩ hr
    obtain ⟨z1, z2, z3, z4, z5, z6, z7⟩ := hJ
    have hl := listed_of hr [0, 3] [] (by simp) (by kernel_rfl) (by rw [z1]; decide)
    exact hQ aq W z2 z3 (fun e he => z4 e (by simpa using he)) (z6 3 2 (hl 3 (by simp)) rfl) z5 hs
def VwnL (A off n cap jx : Nat) (lv : Value) (a b c d p q u w : Int) (t : Bool) (_B : Nat) : Nat → Value → World → Prop
  | 0, v, _ => v = lv
  | 1, v, _ => v = .int .i64 (jx : Nat)
  | 2, v, _ => v = .bool t
  | 3, v, _ => v = .slice (some ⟨A, off, none⟩) n cap
  | 4, v, _ => v = .int .i64 (jx : Nat)
  | 5, v, _ => v = .pointer (some ⟨A, off + jx * 4, none⟩)
  | 6, v, _ => v = .agg #[.int .i64 a, .int .i64 b, .int .i64 c, .int .i64 d]
  | 7, v, _ => v = .agg #[.int .i64 p, .int .i64 q]
  | 8, v, _ => v = .agg #[.int .i64 u, .int .i64 w]
  | 9, v, _ => v = .bool t
  | 10, v, _ => v = .bool false
  | _, _, _ => True
theorem VwnL.mono {A off n cap jx : Nat} {lv : Value} {a b c d p q u w : Int} {t : Bool} {B j : Nat} {v : Value} {W W2 : World} (_hB : Below W.heap.size W W2) (h : VwnL A off n cap jx lv a b c d p q u w t B j v W) : VwnL A off n cap jx lv a b c d p q u w t B j v W2 := by
  unfold VwnL at *
  split <;> simp only at h <;> first | exact h | trivial
set_option maxRecDepth 100000 in
set_option maxHeartbeats 4000000 in
theorem wnL {Q : Exit → Act → World → Prop} {A off n cap jx : Nat} {lv : Value} {a b c d p q u w : Int} {t : Bool} {A4 A5 : Nat}  {w0 : World} {a0 : Act} {idq : Nat} {t0 t1 t2 t3 t4 t5 t6 t7 t8 t9 t10 : TypeId} {q0 q1 q2 q3 q4 q5 q6 q7 q8 q9 q10 : String}
    (jn : (jx : Int) < (n : Int)) (hH : ∀ w', Below w0.heap.size w0 w' → Calls Try.prog 15 #[lv, .int .i64 (jx : Nat)] w' (BoolP t w')) (hM : ∀ w', Calls Try.prog 16 #[.agg #[.int .i64 a, .int .i64 b, .int .i64 c, .int .i64 d], .agg #[.int .i64 p, .int .i64 q], .agg #[.int .i64 u, .int .i64 w]] w' (BoolP t w')) (h6 : a0.tmps[6]? = some (lv)) (h3 : a0.tmps[3]? = some (.slice (some ⟨A, off, none⟩) n cap)) (h10 : a0.tmps[10]? = some (.int .i64 (jx : Nat))) (h4 : a0.tmps[4]? = some (.pointer (some ⟨A4, 0, none⟩))) (h5 : a0.tmps[5]? = some (.pointer (some ⟨A5, 0, none⟩))) (k0 : w0.cell? ⟨A, off + jx * 4, none⟩ = some (.int .i64 a)) (l0 : (⟨A, off + jx * 4, none⟩ : Addr).block < w0.heap.size) (k1 : w0.cell? ⟨A, off + jx * 4 + 1, none⟩ = some (.int .i64 b)) (l1 : (⟨A, off + jx * 4 + 1, none⟩ : Addr).block < w0.heap.size) (k2 : w0.cell? ⟨A, off + jx * 4 + 2, none⟩ = some (.int .i64 c)) (l2 : (⟨A, off + jx * 4 + 2, none⟩ : Addr).block < w0.heap.size) (k3 : w0.cell? ⟨A, off + jx * 4 + 3, none⟩ = some (.int .i64 d)) (l3 : (⟨A, off + jx * 4 + 3, none⟩ : Addr).block < w0.heap.size) (k4 : w0.cell? ⟨A4, 0, none⟩ = some (.int .i64 p)) (l4 : (⟨A4, 0, none⟩ : Addr).block < w0.heap.size) (k5 : w0.cell? ⟨A4, 1, none⟩ = some (.int .i64 q)) (l5 : (⟨A4, 1, none⟩ : Addr).block < w0.heap.size) (k6 : w0.cell? ⟨A5, 0, none⟩ = some (.int .i64 u)) (l6 : (⟨A5, 0, none⟩ : Addr).block < w0.heap.size) (k7 : w0.cell? ⟨A5, 1, none⟩ = some (.int .i64 w)) (l7 : (⟨A5, 1, none⟩ : Addr).block < w0.heap.size) (hz : a0.tmps.size = 109)
    (hQ : ∀ aq W, aq.tmps.size = a0.tmps.size → aq.defers = a0.defers → (∀ e, e ∉ ([63, 64, 65, 66, 67, 68, 69, 70, 71, 72, 73] : List Nat) → aq.tmps[e]? = a0.tmps[e]?) → VwnL A off n cap jx lv a b c d p q u w t w0.heap.size 10 (aq.tmps.getD 73 undef) W → Below w0.heap.size w0 W → Q .normal aq W) :
    (Code.region idq #[{ dst := some 63, op := Op.move (Operand.tmp 6), type := t0, pos := q0, after := #[], guard := none },
    { dst := some 64, op := Op.move (Operand.tmp 10), type := t1, pos := q1, after := #[], guard := none },
    { dst := some 65, op := Op.call { callee := Callee.value (Operand.func 15), args := #[Operand.tmp 63, Operand.tmp 64], argTypes := #[44, 2] }, type := t2, pos := q2, after := #[{ on := 0, ground := Ground.data }, { on := 1, ground := Ground.data }], guard := none },
    { dst := some 66, op := Op.move (Operand.tmp 3), type := t3, pos := q3, after := #[], guard := none },
    { dst := some 67, op := Op.move (Operand.tmp 10), type := t4, pos := q4, after := #[], guard := none },
    { dst := some 68, op := Op.indexAddr 24 (Operand.tmp 66) (Operand.tmp 67), type := t5, pos := q5, after := #[{ on := 3, ground := Ground.data }, { on := 4, ground := Ground.data }], guard := none },
    { dst := some 69, op := Op.load 39 (Operand.tmp 68), type := t6, pos := q6, after := #[{ on := 5, ground := Ground.data }], guard := none },
    { dst := some 70, op := Op.load 26 (Operand.tmp 4), type := t7, pos := q7, after := #[], guard := none },
    { dst := some 71, op := Op.load 26 (Operand.tmp 5), type := t8, pos := q8, after := #[], guard := none },
    { dst := some 72, op := Op.call { callee := Callee.value (Operand.func 16), args := #[Operand.tmp 69, Operand.tmp 70, Operand.tmp 71], argTypes := #[39, 26, 26] }, type := t9, pos := q9, after := #[{ on := 6, ground := Ground.data }, { on := 7, ground := Ground.data }, { on := 8, ground := Ground.data }, { on := 2, ground := Ground.chain }], guard := none },
    { dst := some 73, op := Op.binOp BinOp.neq 4 (Operand.tmp 65) (Operand.tmp 72) 4, type := t10, pos := q10, after := #[{ on := 2, ground := Ground.data }, { on := 9, ground := Ground.data }], guard := none }] true).wp Try.prog Q a0 w0 := by
  have hS : distS [some 63, some 64, some 65, some 66, some 67, some 68, some 69, some 70, some 71, some 72, some 73] = true := rfl
  refine wp_region_q (by kernel_rfl) w0.heap.size [some 63, some 64, some 65, some 66, some 67, some 68, some 69, some 70, some 71, some 72, some 73] (VwnL A off n cap jx lv a b c d p q u w t w0.heap.size) rfl ?_ ?_
  · intro Q lq aq W iq oq hJ hl ho hall
    have hJ2 := hJ
    obtain ⟨z1, z2, z3, z4, z5, z6, z7⟩ := hJ
    have g6 : aq.tmps.getD 6 undef = lv := by rw [Array.getD_eq_getD_getElem?, z4 6 (by decide), h6]; rfl
    have g3 : aq.tmps.getD 3 undef = .slice (some ⟨A, off, none⟩) n cap := by rw [Array.getD_eq_getD_getElem?, z4 3 (by decide), h3]; rfl
    have g10 : aq.tmps.getD 10 undef = .int .i64 (jx : Nat) := by rw [Array.getD_eq_getD_getElem?, z4 10 (by decide), h10]; rfl
    have g4 : aq.tmps.getD 4 undef = .pointer (some ⟨A4, 0, none⟩) := by rw [Array.getD_eq_getD_getElem?, z4 4 (by decide), h4]; rfl
    have g5 : aq.tmps.getD 5 undef = .pointer (some ⟨A5, 0, none⟩) := by rw [Array.getD_eq_getD_getElem?, z4 5 (by decide), h5]; rfl
    have c0 : W.cell? ⟨A, off + jx * 4, none⟩ = some (.int .i64 a) := (z5.cell l0).trans k0
    have c1 : W.cell? ⟨A, off + jx * 4 + 1, none⟩ = some (.int .i64 b) := (z5.cell l1).trans k1
    have c2 : W.cell? ⟨A, off + jx * 4 + 2, none⟩ = some (.int .i64 c) := (z5.cell l2).trans k2
    have c3 : W.cell? ⟨A, off + jx * 4 + 3, none⟩ = some (.int .i64 d) := (z5.cell l3).trans k3
    have c4 : W.cell? ⟨A4, 0, none⟩ = some (.int .i64 p) := (z5.cell l4).trans k4
    have c5 : W.cell? ⟨A4, 1, none⟩ = some (.int .i64 q) := (z5.cell l5).trans k5
    have c6 : W.cell? ⟨A5, 0, none⟩ = some (.int .i64 u) := (z5.cell l6).trans k6
    have c7 : W.cell? ⟨A5, 1, none⟩ = some (.int .i64 w) := (z5.cell l7).trans k7
    match iq, ho with
    | 0, ho =>
      cases ho
      refine wpOp_of rfl rfl ?_
      have hK := fun (v : Value) (W2 : World) hW hT hv => hJ2.put hS 0 63 rfl (by omega) (W' := W2) hW hT v hv
      clear ho hall hl hQ
      generalize InvQ w0.heap.size [some 63, some 64, some 65, some 66, some 67, some 68, some 69, some 70, some 71, some 72, some 73] (VwnL A off n cap jx lv a b c d p q u w t w0.heap.size) w0 a0 (lq.setIfInBounds 0 true) = K at hK ⊢
      clear hJ2 hS z1 z2 z3 z4 z6 z7
      go_simp
      exact hK _ _ z5 (fun _ _ h => h) rfl
    | 1, ho =>
      cases ho
      refine wpOp_of rfl rfl ?_
      have hK := fun (v : Value) (W2 : World) hW hT hv => hJ2.put hS 1 64 rfl (by omega) (W' := W2) hW hT v hv
      clear ho hall hl hQ
      generalize InvQ w0.heap.size [some 63, some 64, some 65, some 66, some 67, some 68, some 69, some 70, some 71, some 72, some 73] (VwnL A off n cap jx lv a b c d p q u w t w0.heap.size) w0 a0 (lq.setIfInBounds 1 true) = K at hK ⊢
      clear hJ2 hS z1 z2 z3 z4 z6 z7
      go_simp
      exact hK _ _ z5 (fun _ _ h => h) rfl
    | 2, ho =>
      cases ho
      refine wpOp_of rfl rfl ?_
      have f0 : (aq.tmps.getD 63 undef) = lv := z6 0 63 (hall { on := 0, ground := Ground.data } (by simp) rfl) rfl
      have f1 : (aq.tmps.getD 64 undef) = .int .i64 (jx : Nat) := z6 1 64 (hall { on := 1, ground := Ground.data } (by simp) rfl) rfl
      have hK := fun (v : Value) (W2 : World) hW hT hv => hJ2.put hS 2 65 rfl (by omega) (W' := W2) hW hT v hv
      clear ho hall hl hQ
      generalize InvQ w0.heap.size [some 63, some 64, some 65, some 66, some 67, some 68, some 69, some 70, some 71, some 72, some 73] (VwnL A off n cap jx lv a b c d p q u w t w0.heap.size) w0 a0 (lq.setIfInBounds 2 true) = K at hK ⊢
      clear hJ2 hS z1 z2 z3 z4 z6 z7
      go_simp
      refine (hH W z5).mono ?_
      rintro e v1 ⟨rfl, hBv⟩
      exact hK _ _ (z5.trans (hBv.mono z5.size)) (fun _ _ h => h.mono hBv) rfl
    | 3, ho =>
      cases ho
      refine wpOp_of rfl rfl ?_
      have hK := fun (v : Value) (W2 : World) hW hT hv => hJ2.put hS 3 66 rfl (by omega) (W' := W2) hW hT v hv
      clear ho hall hl hQ
      generalize InvQ w0.heap.size [some 63, some 64, some 65, some 66, some 67, some 68, some 69, some 70, some 71, some 72, some 73] (VwnL A off n cap jx lv a b c d p q u w t w0.heap.size) w0 a0 (lq.setIfInBounds 3 true) = K at hK ⊢
      clear hJ2 hS z1 z2 z3 z4 z6 z7
      go_simp
      exact hK _ _ z5 (fun _ _ h => h) rfl
    | 4, ho =>
      cases ho
      refine wpOp_of rfl rfl ?_
      have hK := fun (v : Value) (W2 : World) hW hT hv => hJ2.put hS 4 67 rfl (by omega) (W' := W2) hW hT v hv
      clear ho hall hl hQ
      generalize InvQ w0.heap.size [some 63, some 64, some 65, some 66, some 67, some 68, some 69, some 70, some 71, some 72, some 73] (VwnL A off n cap jx lv a b c d p q u w t w0.heap.size) w0 a0 (lq.setIfInBounds 4 true) = K at hK ⊢
      clear hJ2 hS z1 z2 z3 z4 z6 z7
      go_simp
      exact hK _ _ z5 (fun _ _ h => h) rfl
    | 5, ho =>
      cases ho
      refine wpOp_of rfl rfl ?_
      have f3 : (aq.tmps.getD 66 undef) = .slice (some ⟨A, off, none⟩) n cap := z6 3 66 (hall { on := 3, ground := Ground.data } (by simp) rfl) rfl
      have f4 : (aq.tmps.getD 67 undef) = .int .i64 (jx : Nat) := z6 4 67 (hall { on := 4, ground := Ground.data } (by simp) rfl) rfl
      have hK := fun (v : Value) (W2 : World) hW hT hv => hJ2.put hS 5 68 rfl (by omega) (W' := W2) hW hT v hv
      clear ho hall hl hQ
      generalize InvQ w0.heap.size [some 63, some 64, some 65, some 66, some 67, some 68, some 69, some 70, some 71, some 72, some 73] (VwnL A off n cap jx lv a b c d p q u w t w0.heap.size) w0 a0 (lq.setIfInBounds 5 true) = K at hK ⊢
      clear hJ2 hS z1 z2 z3 z4 z6 z7
      go_simp
      exact hK _ _ z5 (fun _ _ h => h) rfl
    | 6, ho =>
      cases ho
      refine wpOp_of rfl rfl ?_
      have f5 : (aq.tmps.getD 68 undef) = .pointer (some ⟨A, off + jx * 4, none⟩) := z6 5 68 (hall { on := 5, ground := Ground.data } (by simp) rfl) rfl
      have hK := fun (v : Value) (W2 : World) hW hT hv => hJ2.put hS 6 69 rfl (by omega) (W' := W2) hW hT v hv
      clear ho hall hl hQ
      generalize InvQ w0.heap.size [some 63, some 64, some 65, some 66, some 67, some 68, some 69, some 70, some 71, some 72, some 73] (VwnL A off n cap jx lv a b c d p q u w t w0.heap.size) w0 a0 (lq.setIfInBounds 6 true) = K at hK ⊢
      clear hJ2 hS z1 z2 z3 z4 z6 z7
      go_simp
      exact hK _ _ z5 (fun _ _ h => h) rfl
    | 7, ho =>
      cases ho
      refine wpOp_of rfl rfl ?_
      have hK := fun (v : Value) (W2 : World) hW hT hv => hJ2.put hS 7 70 rfl (by omega) (W' := W2) hW hT v hv
      clear ho hall hl hQ
      generalize InvQ w0.heap.size [some 63, some 64, some 65, some 66, some 67, some 68, some 69, some 70, some 71, some 72, some 73] (VwnL A off n cap jx lv a b c d p q u w t w0.heap.size) w0 a0 (lq.setIfInBounds 7 true) = K at hK ⊢
      clear hJ2 hS z1 z2 z3 z4 z6 z7
      go_simp
      exact hK _ _ z5 (fun _ _ h => h) rfl
    | 8, ho =>
      cases ho
      refine wpOp_of rfl rfl ?_
      have hK := fun (v : Value) (W2 : World) hW hT hv => hJ2.put hS 8 71 rfl (by omega) (W' := W2) hW hT v hv
      clear ho hall hl hQ
      generalize InvQ w0.heap.size [some 63, some 64, some 65, some 66, some 67, some 68, some 69, some 70, some 71, some 72, some 73] (VwnL A off n cap jx lv a b c d p q u w t w0.heap.size) w0 a0 (lq.setIfInBounds 8 true) = K at hK ⊢
      clear hJ2 hS z1 z2 z3 z4 z6 z7
      go_simp
      exact hK _ _ z5 (fun _ _ h => h) rfl
    | 9, ho =>
      cases ho
      refine wpOp_of rfl rfl ?_
      have f6 : (aq.tmps.getD 69 undef) = .agg #[.int .i64 a, .int .i64 b, .int .i64 c, .int .i64 d] := z6 6 69 (hall { on := 6, ground := Ground.data } (by simp) rfl) rfl
      have f7 : (aq.tmps.getD 70 undef) = .agg #[.int .i64 p, .int .i64 q] := z6 7 70 (hall { on := 7, ground := Ground.data } (by simp) rfl) rfl
      have f8 : (aq.tmps.getD 71 undef) = .agg #[.int .i64 u, .int .i64 w] := z6 8 71 (hall { on := 8, ground := Ground.data } (by simp) rfl) rfl
      have hK := fun (v : Value) (W2 : World) hW hT hv => hJ2.put hS 9 72 rfl (by omega) (W' := W2) hW hT v hv
      clear ho hall hl hQ
      generalize InvQ w0.heap.size [some 63, some 64, some 65, some 66, some 67, some 68, some 69, some 70, some 71, some 72, some 73] (VwnL A off n cap jx lv a b c d p q u w t w0.heap.size) w0 a0 (lq.setIfInBounds 9 true) = K at hK ⊢
      clear hJ2 hS z1 z2 z3 z4 z6 z7
      go_simp
      refine (hM W).mono ?_
      rintro e v1 ⟨rfl, hBv⟩
      exact hK _ _ (z5.trans (hBv.mono z5.size)) (fun _ _ h => h.mono hBv) rfl
    | 10, ho =>
      cases ho
      refine wpOp_of rfl rfl ?_
      have f2 : (aq.tmps.getD 65 undef) = .bool t := z6 2 65 (hall { on := 2, ground := Ground.data } (by simp) rfl) rfl
      have f9 : (aq.tmps.getD 72 undef) = .bool t := z6 9 72 (hall { on := 9, ground := Ground.data } (by simp) rfl) rfl
      have hK := fun (v : Value) (W2 : World) hW hT hv => hJ2.put hS 10 73 rfl (by omega) (W' := W2) hW hT v hv
      clear ho hall hl hQ
      generalize InvQ w0.heap.size [some 63, some 64, some 65, some 66, some 67, some 68, some 69, some 70, some 71, some 72, some 73] (VwnL A off n cap jx lv a b c d p q u w t w0.heap.size) w0 a0 (lq.setIfInBounds 10 true) = K at hK ⊢
      clear hJ2 hS z1 z2 z3 z4 z6 z7
      go_simp
      exact hK _ _ z5 (fun _ _ h => h) rfl
    | iq + 11, ho => simp at ho
  · intro lq aq W hJ hr
    obtain ⟨z1, z2, z3, z4, z5, z6, z7⟩ := hJ
    have hl := listed_of hr [0, 1, 2, 3, 4, 5, 6, 7, 8, 9, 10] [] (by simp) (by kernel_rfl) (by rw [z1]; decide)
    exact hQ aq W z2 z3 (fun e he => z4 e (by simpa using he)) (z6 10 73 (hl 10 (by simp)) rfl) z5
end Go.Proofs.Ytjhmacpejfldoaa

/- Boxes, and rows of segments with a box, drawn from a code. -/
namespace Go.Proofs.Ytjhmacpejfldoaa
open Go.RowKit
/-- Two small spots. -/
def BoxP (g : Nat) (ao : Option Addr) (n cap : Nat) (cs : List Int) (w : World) (e : Ending) (w' : World) : Prop := ∃ p q u v : Int, e = .returned (.tuple #[.agg #[.int .i64 p, .int .i64 q], .agg #[.int .i64 u, .int .i64 v]]) ∧ Sm p ∧ Sm q ∧ Sm u ∧ Sm v ∧ Rdr w' g ao n cap cs ∧ Kept g w w'
theorem sm_zero : Sm 0 := ⟨by decide, by decide⟩
set_option maxRecDepth 100000 in
set_option maxHeartbeats 8000000 in
theorem box_any (g : Nat) (ao : Option Addr) (n cap : Nat) (cs : List Int) (w : World) (R : Rdr w g ao n cap cs) :
    Calls Try.prog 40 #[.pointer (some ⟨g, 0, none⟩)] w (BoxP g ao n cap cs w) := by
  have hg := R.lt
  have B0 := (Blk.new w [.int .i64 0, .int .i64 0] 26 rfl).alloc (.cells #[.int .i64 0, .int .i64 0] 26)
  have B1 := Blk.new (w.alloc (.cells #[.int .i64 0, .int .i64 0] 26)) [.int .i64 0, .int .i64 0] 26 (g := w.heap.size + 1) (by simp)
  rw [show ([.int .i64 0, .int .i64 0] : List Value).toArray = #[.int .i64 0, .int .i64 0] from rfl] at B0 B1
  replace R := (R.alloc (.cells #[.int .i64 0, .int .i64 0] 26)).alloc (.cells #[.int .i64 0, .int .i64 0] 26)
  have K := ((Kept.refl g w).alloc (.cells #[.int .i64 0, .int .i64 0] 26)).alloc (.cells #[.int .i64 0, .int .i64 0] 26)
  have h0 : w.heap.size ≠ g := by omega
  have h1 : w.heap.size + 1 ≠ g := by omega
  go_enter Try.func40, Try.ntmps40
  go_wp2_with fail
  refine (spot_any g ao n cap cs _ R).mono ?_
  rintro e w1 ⟨_, rfl, ⟨x, y, rfl, x0, x1, y0, y1⟩, R1, K1⟩
  replace K := K.trans K1
  replace B0 := B0.kept K1 h0
  replace B1 := B1.kept K1 h1
  clear R K1
  have R := R1
  clear R1
  have gl1 := R.lt
  have bl1 := B1.lt
  have X4 := Blk.new w1 [.int .i64 x, .int .i64 y] 26 rfl
  rw [show ([.int .i64 x, .int .i64 y] : List Value).toArray = #[.int .i64 x, .int .i64 y] from rfl] at X4
  replace R := R.alloc (.cells #[.int .i64 x, .int .i64 y] 26)
  replace K := K.alloc (.cells #[.int .i64 x, .int .i64 y] 26)
  replace B0 := B0.alloc (.cells #[.int .i64 x, .int .i64 y] 26)
  replace B1 := B1.alloc (.cells #[.int .i64 x, .int .i64 y] 26)
  have h4 : w1.heap.size ≠ g := by omega
  go_wp2_with fail
  refine (spot_any g ao n cap cs _ R).mono ?_
  rintro e w2 ⟨_, rfl, ⟨r, s, rfl, r0, r1, s0, s1⟩, R1, K1⟩
  replace K := K.trans K1
  replace B0 := B0.kept K1 h0
  replace B1 := B1.kept K1 h1
  replace X4 := X4.kept K1 h4
  clear R K1
  have R := R1
  clear R1
  have gl2 := R.lt
  have bl2 := B1.lt
  have X5 := Blk.new w2 [.int .i64 r, .int .i64 s] 26 rfl
  rw [show ([.int .i64 r, .int .i64 s] : List Value).toArray = #[.int .i64 r, .int .i64 s] from rfl] at X5
  replace R := R.alloc (.cells #[.int .i64 r, .int .i64 s] 26)
  replace K := K.alloc (.cells #[.int .i64 r, .int .i64 s] 26)
  replace B0 := B0.alloc (.cells #[.int .i64 r, .int .i64 s] 26)
  replace B1 := B1.alloc (.cells #[.int .i64 r, .int .i64 s] 26)
  replace X4 := X4.alloc (.cells #[.int .i64 r, .int .i64 s] 26)
  have h5 : w2.heap.size ≠ g := by omega
  go_wp2_with fail
  refine (once_any 16 (by decide) (by decide) g ao n cap cs _ R).mono ?_
  rintro e w3 ⟨_, rfl, ⟨t, rfl⟩, R1, K1⟩
  replace K := K.trans K1
  replace B0 := B0.kept K1 h0
  replace B1 := B1.kept K1 h1
  replace X4 := X4.kept K1 h4
  replace X5 := X5.kept K1 h5
  clear R K1
  have R := R1
  clear R1
  cases t
  · go_upto_region 5 with fail
    refine bxB (R0 := w.heap.size) (R1 := w.heap.size + 1) (A4 := w1.heap.size) (A5 := w2.heap.size) (x := x) (y := y) (r := r) (s := s) (by omega) (by omega) (by omega) ⟨x0, x1⟩ ⟨y0, y1⟩ ⟨r0, r1⟩ ⟨s0, s1⟩ rfl rfl rfl rfl rfl ⟨X4.drew, X5.drew, ⟨0, 0, sm_zero, sm_zero, B0.drew⟩, 0, 0, sm_zero, sm_zero, B1.drew⟩ ?_
    rintro ⟨tm, df⟩ Wz hz hdf hoff hBz ⟨_, _, ⟨p, q, hp, hq, F0⟩, u, v, hu, hv, F1⟩
    simp only at hz hdf hoff
    subst hdf
    have htm := tmps_fold [14, 15, 16, 17, 18, 19, 20, 21, 22, 23, 24, 25, 26, 27, 28, 29, 30, 31, 32, 33, 34, 35] tm _ hz hoff
    simp only [List.foldl, List.setIfInBounds_toArray, List.set_cons_zero, List.set_cons_succ] at htm
    clear hz hoff
    generalize tm.getD 14 undef = sl0, tm.getD 15 undef = sl1, tm.getD 16 undef = sl2, tm.getD 17 undef = sl3, tm.getD 18 undef = sl4, tm.getD 19 undef = sl5, tm.getD 20 undef = sl6, tm.getD 21 undef = sl7, tm.getD 22 undef = sl8, tm.getD 23 undef = sl9, tm.getD 24 undef = sl10, tm.getD 25 undef = sl11, tm.getD 26 undef = sl12, tm.getD 27 undef = sl13, tm.getD 28 undef = sl14, tm.getD 29 undef = sl15, tm.getD 30 undef = sl16, tm.getD 31 undef = sl17, tm.getD 32 undef = sl18, tm.getD 33 undef = sl19, tm.getD 34 undef = sl20, tm.getD 35 undef = sl21 at htm
    subst htm
    have R2 := rdr_below R hBz (by omega)
    have K2 := kept_below K hBz (by omega) (Nat.le_refl _)
    obtain ⟨o0, o1⟩ := F0.cs2
    obtain ⟨o2, o3⟩ := F1.cs2
    clear R K B0 B1 X4 X5 F0 F1 hBz
    go_wp2
    refine bodyPost_ret (v := .tuple #[.agg #[.int .i64 p, .int .i64 q], .agg #[.int .i64 u, .int .i64 v]]) (by simp [results, Try.results40, go_sem, o0, o1, o2, o3]) rfl ?_
    exact ⟨p, q, u, v, rfl, hp, hq, hu, hv, R2, K2⟩
  · go_upto_region 4 with fail
    refine bxA (R0 := w.heap.size) (R1 := w.heap.size + 1) (A4 := w1.heap.size) (A5 := w2.heap.size) (x := x) (y := y) (r := r) (s := s) (by omega) (by omega) (by omega) ⟨x0, x1⟩ ⟨y0, y1⟩ ⟨r0, r1⟩ ⟨s0, s1⟩ rfl rfl rfl rfl rfl ⟨X4.drew, X5.drew, ⟨0, 0, sm_zero, sm_zero, B0.drew⟩, 0, 0, sm_zero, sm_zero, B1.drew⟩ ?_
    rintro ⟨tm, df⟩ Wz hz hdf hoff hBz ⟨_, _, ⟨p, q, hp, hq, F0⟩, u, v, hu, hv, F1⟩
    simp only at hz hdf hoff
    subst hdf
    have htm := tmps_fold [12, 13] tm _ hz hoff
    simp only [List.foldl, List.setIfInBounds_toArray, List.set_cons_zero, List.set_cons_succ] at htm
    clear hz hoff
    generalize tm.getD 12 undef = sl0, tm.getD 13 undef = sl1 at htm
    subst htm
    have R2 := rdr_below R hBz (by omega)
    have K2 := kept_below K hBz (by omega) (Nat.le_refl _)
    obtain ⟨o0, o1⟩ := F0.cs2
    obtain ⟨o2, o3⟩ := F1.cs2
    clear R K B0 B1 X4 X5 F0 F1 hBz
    go_wp2
    refine bodyPost_ret (v := .tuple #[.agg #[.int .i64 p, .int .i64 q], .agg #[.int .i64 u, .int .i64 v]]) (by simp [results, Try.results40, go_sem, o0, o1, o2, o3]) rfl ?_
    exact ⟨p, q, u, v, rfl, hp, hq, hu, hv, R2, K2⟩
/-- A row of segments of the call's own, and two small spots. -/
def SgsBxP (w : World) (e : Ending) (w' : World) : Prop := ∃ v c L p q r s, e = .returned (.tuple #[v, .agg #[.int .i64 p, .int .i64 q], .agg #[.int .i64 r, .int .i64 s]]) ∧ c ≤ 6 ∧ SgRow w' w.heap.size v c L ∧ Sm p ∧ Sm q ∧ Sm r ∧ Sm s ∧ Below w.heap.size w w'
set_option maxRecDepth 100000 in
set_option maxHeartbeats 8000000 in
theorem drawWindow_any (ao : Option Addr) (n cap : Nat) (cs : List Int) (w : World) (h : Code w ao n cs) : Calls Try.prog 11 #[.slice ao n cap] w (SgsBxP w) := by
  have B0 := (Blk.new w [.int .i64 0, .int .i64 0] 26 rfl).alloc (.cells #[.int .i64 0, .int .i64 0] 26)
  have B1 := Blk.new (w.alloc (.cells #[.int .i64 0, .int .i64 0] 26)) [.int .i64 0, .int .i64 0] 26 (g := w.heap.size + 1) (by simp)
  rw [show ([.int .i64 0, .int .i64 0] : List Value).toArray = #[.int .i64 0, .int .i64 0] from rfl] at B0 B1
  have HB : Below w.heap.size w ((w.alloc (.cells #[.int .i64 0, .int .i64 0] 26)).alloc (.cells #[.int .i64 0, .int .i64 0] 26)) := ((Below.refl _ _).alloc (Nat.le_refl _) _).alloc (by simp) _
  replace h := h.below HB
  go_enter Try.func11, Try.ntmps11
  go_wp2_with fail
  refine (open_any ao n cap cs _ h).mono ?_
  rintro e w1 ⟨g, rfl, hG, R, hB⟩
  simp at hG
  have h0 : w.heap.size ≠ g := by omega
  have h1 : w.heap.size + 1 ≠ g := by omega
  replace B0 := B0.step hB
  replace B1 := B1.step hB
  have bl1 := B1.lt
  replace HB : Below w.heap.size w w1 := HB.trans (hB.mono HB.size)
  clear hB h
  go_wp2_with fail
  refine (segs_any g ao n cap cs _ R).mono ?_
  rintro e w2 ⟨v, c, ls, rfl, hc, O, R1, K1⟩
  replace B0 := B0.kept K1 h0
  replace B1 := B1.kept K1 h1
  replace HB := HB.trans (K1.below (by omega) HB.size)
  have hg1 : g < w1.heap.size := R.lt
  clear R K1
  have R := R1
  clear R1
  go_wp2_with fail
  refine (box_any g ao n cap cs _ R).mono ?_
  rintro e w3 ⟨x, y, r, s, rfl, hx, hy, hr, hs, R1, K1⟩
  replace B0 := B0.kept K1 h0
  replace B1 := B1.kept K1 h1
  replace HB := HB.trans (K1.below (by omega) HB.size)
  replace O := O.kept K1 hg1
  clear R K1 R1
  have b3 := B1.lt
  have X7 := (Blk.new w3 [.int .i64 x, .int .i64 y] 26 rfl).alloc (.cells #[.int .i64 r, .int .i64 s] 26)
  have X8 := Blk.new (w3.alloc (.cells #[.int .i64 x, .int .i64 y] 26)) [.int .i64 r, .int .i64 s] 26 (g := w3.heap.size + 1) (by simp)
  rw [show ([.int .i64 x, .int .i64 y] : List Value).toArray = #[.int .i64 x, .int .i64 y] from rfl] at X7 X8
  rw [show ([.int .i64 r, .int .i64 s] : List Value).toArray = #[.int .i64 r, .int .i64 s] from rfl] at X8
  replace B0 := (B0.alloc (.cells #[.int .i64 x, .int .i64 y] 26)).alloc (.cells #[.int .i64 r, .int .i64 s] 26)
  replace B1 := (B1.alloc (.cells #[.int .i64 x, .int .i64 y] 26)).alloc (.cells #[.int .i64 r, .int .i64 s] 26)
  replace O := (O.alloc (.cells #[.int .i64 x, .int .i64 y] 26)).alloc (.cells #[.int .i64 r, .int .i64 s] 26)
  replace HB := (HB.alloc HB.size (.cells #[.int .i64 x, .int .i64 y] 26)).alloc (HB.alloc HB.size (.cells #[.int .i64 x, .int .i64 y] 26)).size (.cells #[.int .i64 r, .int .i64 s] 26)
  go_upto_region 4 with fail
  refine dwR (R0 := w.heap.size) (R1 := w.heap.size + 1) (A4 := w3.heap.size) (A5 := w3.heap.size + 1) (x := x) (y := y) (r := r) (s := s) (Bs := w1.heap.size) (rv := v) (c := c) (Lz := ls) (by omega) (by omega) (by omega) hx hy hr hs (by omega) rfl rfl rfl rfl rfl rfl ⟨X7.drew, X8.drew, ⟨O.own, O.i64⟩, ⟨0, 0, sm_zero, sm_zero, B0.drew⟩, 0, 0, sm_zero, sm_zero, B1.drew⟩ ?_
  rintro ⟨tm, df⟩ Wz hz hdf hoff h2 hBz ⟨_, _, O2, ⟨p, q, hp, hq, F0⟩, u, z, hu, hz', F1⟩
  simp only at hz hdf hoff
  change tm.getD 2 undef = v at h2
  subst hdf
  have htm := tmps_fold [18, 19, 20, 2] tm _ hz hoff
  simp only [List.foldl, List.setIfInBounds_toArray, List.set_cons_zero, List.set_cons_succ, h2] at htm
  clear hz hoff
  generalize tm.getD 18 undef = sl0, tm.getD 19 undef = sl1, tm.getD 20 undef = sl2 at htm
  clear h2
  subst htm
  replace HB := HB.trans hBz
  obtain ⟨o0, o1⟩ := F0.cs2
  obtain ⟨o2, o3⟩ := F1.cs2
  clear B0 B1 X7 X8 F0 F1 hBz O
  go_wp2
  refine bodyPost_ret (v := .tuple #[v, .agg #[.int .i64 p, .int .i64 q], .agg #[.int .i64 u, .int .i64 z]]) (by simp [results, Try.results11, go_sem, o0, o1, o2, o3]) rfl ?_
  exact ⟨v, c, ls, p, q, u, z, rfl, hc, O2.mono (by omega), hp, hq, hu, hz', HB⟩
end Go.Proofs.Ytjhmacpejfldoaa

/- Rows of segments: copied and held against one another; the law of what is at fault in them. -/
namespace Go.Proofs.Ytjhmacpejfldoaa
open Go.RowKit
theorem row_step {w w' : World} {g n : Nat} {T : TypeId} {f : Nat → Value} (h : w.rowIs g T n f) (hB : Below w.heap.size w w') : w'.rowIs g T n f := h.of_block (hB.block g h.lt)
end Go.Proofs.Ytjhmacpejfldoaa

/- Rows of segments: the law of what is at fault in them. -/
namespace Go.Proofs.Ytjhmacpejfldoaa
open Go.RowKit
end Go.Proofs.Ytjhmacpejfldoaa

/- Rows of numbers: how they lie; copied, held against one another. -/
namespace Go.Proofs.Ytjhmacpejfldoaa
open Go.RowKit
/-- n numbers lie behind a slice's address. -/
def NoIn (w : World) (ao : Option Addr) (n : Nat) (x : Nat → Int) : Prop :=
  ∀ i, i < n → ∃ A off, ao = some ⟨A, off, none⟩ ∧ A < w.heap.size ∧ w.cell? ⟨A, off + i, none⟩ = some (.int .i64 (x i))
theorem NoIn.step {w w' : World} {ao : Option Addr} {n : Nat} {x : Nat → Int} (h : NoIn w ao n x) (hB : Below w.heap.size w w') : NoIn w' ao n x := fun i hi => by
  obtain ⟨A, off, e, hA, hc⟩ := h i hi
  exact ⟨A, off, e, Nat.lt_of_lt_of_le hA hB.size, (hB.cell (p := ⟨A, off + i, none⟩) hA).trans hc⟩
theorem Try.infoNo : (Try.prog.info? 2).map (fun i => (i.zero, i.size, i.bytes)) = some (some (.int .i64 0), 1, 8) := by kernel_rfl
end Go.Proofs.Ytjhmacpejfldoaa

/- Answers that own their rows of numbers: held against one another, marked, held again; a row of segments marked. -/
namespace Go.Proofs.Ytjhmacpejfldoaa
open Go.RowKit
/-- A slice of the call's own, with these numbers. -/
def NoOwn (w : World) (base : Nat) (v : Value) (L : List Int) : Prop :=
  (v = .slice none 0 0 ∧ L = []) ∨ ∃ g cap f, v = .slice (some ⟨g, 0, none⟩) L.length cap ∧ base ≤ g ∧ L.length ≤ cap ∧ w.rowIs g 2 cap f ∧ ∀ i, i < L.length → f i = .int .i64 (L.getD i 0)
theorem NoOwn.step {w w' : World} {base : Nat} {v : Value} {L : List Int} (h : NoOwn w base v L) (hB : Below w.heap.size w w') : NoOwn w' base v L := by
  rcases h with h | ⟨g, cap, f, h1, h2, h3, h4, h5⟩
  · exact .inl h
  · exact .inr ⟨g, cap, f, h1, h2, h3, row_step h4 hB, h5⟩
theorem NoOwn.of {w : World} {base : Nat} {v : Value} {L : List Int} (h : w.ownsRow base 2 1 v L.length (L.map (Value.int .i64))) : NoOwn w base v L := by
  rcases h.2 with ⟨h1, h2⟩ | ⟨g, cap, cur, h1, h2, h3, h4, h5, h6, h7⟩
  · exact .inl ⟨h1, List.length_eq_zero_iff.1 h2⟩
  · refine .inr ⟨g, cap, fun i => cur.getD i undef, h1, h2, h4, ⟨cur, h3, by omega, fun i hi => ?_⟩, fun i hi => ?_⟩
    · simp [Array.getD_eq_getD_getElem?, show i < cur.size by omega]
    · have e : (cur.toList.take (L.length * 1))[i]? = (L.map (Value.int .i64))[i]? := by rw [h7]
      rw [List.getElem?_take_of_lt (by omega), List.getElem?_map, List.getElem?_eq_getElem hi] at e
      simp only [Array.getElem?_toList, Option.map_some] at e
      show cur.getD i undef = _
      rw [Array.getD_eq_getD_getElem?, e]
      simp [List.getD_eq_getElem?_getD, hi]
/-- The slice's own parts, and that its numbers lie there. -/
theorem NoOwn.in {w : World} {base : Nat} {v : Value} {L : List Int} (h : NoOwn w base v L) : ∃ ao cap, v = .slice ao L.length cap ∧ NoIn w ao L.length (fun i => L.getD i 0) := by
  rcases h with ⟨h1, h2⟩ | ⟨g, cap, f, h1, h2, h3, h4, h5⟩
  · subst h2
    exact ⟨none, 0, h1, fun i hi => by simp at hi⟩
  · exact ⟨some ⟨g, 0, none⟩, cap, h1, fun i hi => ⟨g, 0, rfl, h4.lt, by rw [Nat.zero_add, h4.cell (by omega), h5 i hi]⟩⟩
/-- No block has turned but one of those that a base leaves free. -/
def OtherB (h : Option Nat) (w w' : World) : Prop :=
  (∀ g, some g ≠ h → g < w.heap.size → w'.heap[g]? = w.heap[g]?) ∧ w.heap.size ≤ w'.heap.size ∧ ∀ w0 : World, (∀ g, h = some g → w0.heap.size ≤ g) → Below w0.heap.size w0 w → Below w0.heap.size w0 w'
theorem OtherB.row {h : Option Nat} {w w' : World} (k : OtherB h w w') {g n : Nat} {T : TypeId} {f : Nat → Value} (hne : some g ≠ h) (r : w.rowIs g T n f) : w'.rowIs g T n f := r.of_block (k.1 g hne r.lt)
theorem OtherB.own {h : Option Nat} {w w' : World} (k : OtherB h w w') {base : Nat} {v : Value} {L : List Int} (r : NoOwn w base v L) (hne : ∀ g, v.ownBlock = some g → some g ≠ h) : NoOwn w' base v L := by
  rcases r with r | ⟨g, cap, f, h1, h2, h3, h4, h5⟩
  · exact .inl r
  · exact .inr ⟨g, cap, f, h1, h2, h3, k.row (hne g (by subst h1; rfl)) h4, h5⟩
theorem OtherB.blk {h : Option Nat} {w w' : World} (k : OtherB h w w') {g : Nat} {vs : List Value} (hne : some g ≠ h) (r : Blk w g vs) : Blk w' g vs := by
  refine ⟨Nat.lt_of_lt_of_le r.lt k.2.1, fun i v hi => ⟨?_, ?_⟩⟩
  · have := r.c i hi
    unfold World.cell? at this ⊢
    simp only [k.1 g hne r.lt]
    exact this
  · have := r.f i hi
    unfold World.frozen? at this ⊢
    simp only [k.1 g hne r.lt]
    exact this
theorem OtherB.refl (h : Option Nat) (w : World) : OtherB h w w := ⟨fun _ _ _ => rfl, Nat.le_refl _, fun _ _ H => H⟩
theorem OtherB.set {h : Nat} {w w' : World} (k : OtherB (some h) w w') (i : Nat) (v : Value) : OtherB (some h) w (w'.setCell ⟨h, i, none⟩ v) := by
  refine ⟨fun g hne hg => ?_, by simpa [World.setCell] using k.2.1, fun w0 hb H => (k.2.2 w0 hb H).setCell (by exact hb h rfl) _⟩
  rw [Below.heap_setCell _ _ _ _ (fun e => hne (congrArg some e))]
  exact k.1 g hne hg
theorem OtherB.step {h : Option Nat} {w w' w'' : World} (k : OtherB h w w') (hB : Below w'.heap.size w' w'') : OtherB h w w'' :=
  ⟨fun g hne hg => (hB.block g (Nat.lt_of_lt_of_le hg k.2.1)).trans (k.1 g hne hg), Nat.le_trans k.2.1 hB.size, fun w0 hb H => (k.2.2 w0 hb H).trans (hB.mono (k.2.2 w0 hb H).size)⟩
end Go.Proofs.Ytjhmacpejfldoaa

/- The turn of three spots: the walks. -/
namespace Go.Proofs.Ytjhmacpejfldoaa
open Go.RowKit
def In6 (x : Int) : Prop := -1000000 ≤ x ∧ x ≤ 1000000
theorem mul_inS {p q M N : Int} (h1 : -M ≤ p) (h2 : p ≤ M) (h3 : -N ≤ q) (h4 : q ≤ N) : -(M * N) ≤ p * q ∧ p * q ≤ M * N := by
  have hM : 0 ≤ M := by omega
  have hN : 0 ≤ N := by omega
  have a1 : 0 ≤ (M - p) * (N - q) := Int.mul_nonneg (by omega) (by omega)
  have a2 : 0 ≤ (M + p) * (N + q) := Int.mul_nonneg (by omega) (by omega)
  have a3 : 0 ≤ (M - p) * (N + q) := Int.mul_nonneg (by omega) (by omega)
  have a4 : 0 ≤ (M + p) * (N - q) := Int.mul_nonneg (by omega) (by omega)
  constructor <;> grind
theorem minusSp_any (x y u v : Int) (hx : In6 x) (hy : In6 y) (hu : In6 u) (hv : In6 v) (w : World) : Calls Try.prog 31 #[Sp x y, Sp u v] w (SpotP (x - u) (y - v) w) := by
  obtain ⟨x1, x2⟩ := hx; obtain ⟨y1, y2⟩ := hy; obtain ⟨u1, u2⟩ := hu; obtain ⟨v1, v2⟩ := hv
  go_enter Try.func31, Try.ntmps31
  go_wp2
  refine bodyPost_ret (v := Sp (x - u) (y - v)) (by simp [results, Try.results31, go_sem]) rfl ?_
  exact ⟨rfl, (((Below.refl _ _).alloc (Nat.le_refl _) _).alloc (by simp) _).alloc (by simp; omega) _⟩
theorem crossSp_any (x y u v p q : Int) (hp : x * v = p) (hq : y * u = q) (hpb : -4000000000000 ≤ p ∧ p ≤ 4000000000000) (hqb : -4000000000000 ≤ q ∧ q ≤ 4000000000000) (w : World) : Calls Try.prog 35 #[Sp x y, Sp u v] w (IntP (p - q) w) := by
  obtain ⟨p1, p2⟩ := hpb; obtain ⟨q1, q2⟩ := hqb
  go_enter Try.func35, Try.ntmps35
  go_wp2
  go_ret
  exact ⟨rfl, ((Below.refl _ _).alloc (Nat.le_refl _) _).alloc (by simp) _⟩
def turnSp (a b c d x y : Int) : Int := (c - a) * (y - b) - (d - b) * (x - a)
def sgnSp (z : Int) : Int := if z < 0 then -1 else if 0 < z then 1 else 0
set_option maxRecDepth 100000 in
theorem l4Turn_any (a b c d x y : Int) (ha : In6 a) (hb : In6 b) (hc : In6 c) (hd : In6 d) (hx : In6 x) (hy : In6 y) (w : World) :
    Calls Try.prog 72 #[Sp a b, Sp c d, Sp x y] w (IntP (sgnSp (turnSp a b c d x y)) w) := by
  have HR : turnSp a b c d x y = (c - a) * (y - b) - (d - b) * (x - a) := rfl
  obtain ⟨a1, a2⟩ := ha; obtain ⟨b1, b2⟩ := hb; obtain ⟨c1, c2⟩ := hc; obtain ⟨d1, d2⟩ := hd; obtain ⟨x1, x2⟩ := hx; obtain ⟨y1, y2⟩ := hy
  obtain ⟨p1, p2⟩ := mul_inS (p := c - a) (q := y - b) (M := 2000000) (N := 2000000) (by omega) (by omega) (by omega) (by omega)
  obtain ⟨q1, q2⟩ := mul_inS (p := d - b) (q := x - a) (M := 2000000) (N := 2000000) (by omega) (by omega) (by omega) (by omega)
  obtain ⟨p, hp⟩ : ∃ p, (c - a) * (y - b) = p := ⟨_, rfl⟩
  obtain ⟨q, hq⟩ : ∃ q, (d - b) * (x - a) = q := ⟨_, rfl⟩
  rw [hp] at p1 p2 HR
  rw [hq] at q1 q2 HR
  rw [HR]
  clear HR
  go_enter Try.func72, Try.ntmps72
  go_wp2
  all_goals go_ret
  all_goals exact ⟨ret_int (by unfold sgnSp; split <;> (try split) <;> omega), (((Below.refl _ _).alloc (Nat.le_refl _) _).alloc (by simp) _).alloc (by simp; omega) _⟩
theorem turnTo_cells {a b c d x y : Int} {w W : World} (h : ArgsB w W [[.int .i64 a, .int .i64 b, .int .i64 c, .int .i64 d], [.int .i64 x, .int .i64 y]]) : (fun w' => w'.cell? ⟨w.heap.size, 0, none⟩ = some (.int .i64 a) ∧ w'.cell? ⟨w.heap.size, 1, none⟩ = some (.int .i64 b) ∧ w'.cell? ⟨w.heap.size, 2, none⟩ = some (.int .i64 c) ∧ w'.cell? ⟨w.heap.size, 3, none⟩ = some (.int .i64 d) ∧ w'.cell? ⟨w.heap.size + 1, 0, none⟩ = some (.int .i64 x) ∧ w'.cell? ⟨w.heap.size + 1, 1, none⟩ = some (.int .i64 y)) W :=
  ⟨(h.b 0 rfl).c 0 rfl, (h.b 0 rfl).c 1 rfl, (h.b 0 rfl).c 2 rfl, (h.b 0 rfl).c 3 rfl, (h.b 1 rfl).c 0 rfl, (h.b 1 rfl).c 1 rfl⟩
theorem turnTo_start (a b c d x y : Int) (w : World) : ArgsB w ((w.alloc (.cells #[.int .i64 a, .int .i64 b, .int .i64 c, .int .i64 d] 39)).alloc (.cells #[.int .i64 x, .int .i64 y] 26)) [[.int .i64 a, .int .i64 b, .int .i64 c, .int .i64 d], [.int .i64 x, .int .i64 y]] := by
  refine ⟨((Below.refl _ _).alloc (Nat.le_refl _) _).alloc (by simp) _, fun j vs hj => ?_⟩
  match j, hj with
  | 0, hj => cases hj; exact (Blk.new w [.int .i64 a, .int .i64 b, .int .i64 c, .int .i64 d] 39 rfl).alloc _
  | 1, hj => cases hj; exact Blk.new (w.alloc (.cells #[.int .i64 a, .int .i64 b, .int .i64 c, .int .i64 d] 39)) [.int .i64 x, .int .i64 y] 26 (by simp)
  | j + 2, hj => simp at hj
set_option maxRecDepth 100000 in
set_option maxHeartbeats 1000000 in
theorem turnTo_any (a b c d x y : Int) (ha : In6 a) (hb : In6 b) (hc : In6 c) (hd : In6 d) (hx : In6 x) (hy : In6 y) (w : World) :
    Calls Try.prog 96 #[Sg a b c d, Sp x y] w (IntP (turnSp a b c d x y) w) := by
  have HP : -4000000000000 ≤ (c - a) * (y - b) ∧ (c - a) * (y - b) ≤ 4000000000000 := mul_inS (M := 2000000) (N := 2000000) (by have := ha.1; have := ha.2; have := hc.1; have := hc.2; omega) (by have := ha.1; have := ha.2; have := hc.1; have := hc.2; omega) (by have := hb.1; have := hb.2; have := hy.1; have := hy.2; omega) (by have := hb.1; have := hb.2; have := hy.1; have := hy.2; omega)
  have HQ : -4000000000000 ≤ (d - b) * (x - a) ∧ (d - b) * (x - a) ≤ 4000000000000 := mul_inS (M := 2000000) (N := 2000000) (by have := hb.1; have := hb.2; have := hd.1; have := hd.2; omega) (by have := hb.1; have := hb.2; have := hd.1; have := hd.2; omega) (by have := ha.1; have := ha.2; have := hx.1; have := hx.2; omega) (by have := ha.1; have := ha.2; have := hx.1; have := hx.2; omega)
  have T0 := turnTo_start a b c d x y w
  have tok1 : True := trivial
  go_enter Try.func96, Try.ntmps96
  go_upto_region 1 with fail
  generalize ((w.alloc (.cells #[.int .i64 a, .int .i64 b, .int .i64 c, .int .i64 d] 39)).alloc (.cells #[.int .i64 x, .int .i64 y] 26)) = W at *
  go_region_held3 (fun w' => w'.cell? ⟨w.heap.size, 0, none⟩ = some (.int .i64 a) ∧ w'.cell? ⟨w.heap.size, 1, none⟩ = some (.int .i64 b) ∧ w'.cell? ⟨w.heap.size, 2, none⟩ = some (.int .i64 c) ∧ w'.cell? ⟨w.heap.size, 3, none⟩ = some (.int .i64 d) ∧ w'.cell? ⟨w.heap.size + 1, 0, none⟩ = some (.int .i64 x) ∧ w'.cell? ⟨w.heap.size + 1, 1, none⟩ = some (.int .i64 y)) (first | (with_reducible exact turnTo_cells T0) | (with_reducible exact turnTo_cells T0.drew))
    (first
      | (go_at_call 31; have _t := tok1; refine (minusSp_any c d a b hc hd ha hb _).mono ?_; rintro e w1 ⟨rfl, hB⟩; (first | (have T1 := T0.step hB) | (have T1 := T0.drew.step hB)); clear T0; have T0 := T1; clear T1; clear hB tok1 _t)
      | (go_at_call 31; refine (minusSp_any x y a b hx hy ha hb _).mono ?_; rintro e w2 ⟨rfl, hB⟩; (first | (have T1 := T0.step hB) | (have T1 := T0.drew.step hB)); clear T0; have T0 := T1; clear T1; clear hB)
      | (go_at_call 35; refine (crossSp_any (c - a) (d - b) (x - a) (y - b) _ _ rfl rfl HP HQ _).mono ?_; rintro e w3 ⟨rfl, hB⟩; (first | (have T1 := T0.step hB) | (have T1 := T0.drew.step hB)); clear T0; have T0 := T1; clear T1; clear hB))
  all_goals go_wp2
  all_goals go_ret
  all_goals first | exact ⟨rfl, T0.below⟩ | exact ⟨rfl, T0.drew.below⟩
end Go.Proofs.Ytjhmacpejfldoaa

/- The sides of a segment on which spots are: the walk of the program's loop. -/
namespace Go.Proofs.Ytjhmacpejfldoaa
open Go.RowKit
structure PartI (w wr : World) (g : Nat) (sg sl : List Value) : Prop where
  below : Below w.heap.size w wr
  seg : Blk wr w.heap.size sg
  row : Blk wr g sl
theorem PartI.step {w wr wr' : World} {g : Nat} {sg sl : List Value} (h : PartI w wr g sg sl) (hB : Below wr.heap.size wr wr') : PartI w wr' g sg sl := ⟨h.below.trans (hB.mono h.below.size), h.seg.step hB, h.row.step hB⟩
theorem PartI.alloc {w wr : World} {g : Nat} {sg sl : List Value} (h : PartI w wr g sg sl) (o : Obj) : PartI w (wr.alloc o) g sg sl := h.step ((Below.refl _ _).alloc (Nat.le_refl _) o)
def lefts (ts : List Int) (k : Nat) : Bool := (ts.take k).any (fun t => decide (0 ≤ t))
def rights (ts : List Int) (k : Nat) : Bool := (ts.take k).any (fun t => decide (t ≤ 0))
theorem lefts_succ (ts : List Int) (k : Nat) (t : Int) (h : ts[k]? = some t) : lefts ts (k + 1) = (lefts ts k || decide (0 ≤ t)) := by
  unfold lefts
  rw [List.take_add_one, h]
  simp
theorem rights_succ (ts : List Int) (k : Nat) (t : Int) (h : ts[k]? = some t) : rights ts (k + 1) = (rights ts k || decide (t ≤ 0)) := by
  unfold rights
  rw [List.take_add_one, h]
  simp
set_option maxRecDepth 100000 in
set_option maxHeartbeats 2000000 in
theorem parts_any (a b c d x0 y0 x1 y1 x2 y2 x3 y3 : Int) (ha : In6 a) (hb : In6 b) (hc : In6 c) (hd : In6 d) (hx0 : In6 x0) (hy0 : In6 y0) (hx1 : In6 x1) (hy1 : In6 y1) (hx2 : In6 x2) (hy2 : In6 y2) (hx3 : In6 x3) (hy3 : In6 y3) (g : Nat) (w : World) (hS : Blk w g [.int .i64 x0, .int .i64 y0, .int .i64 x1, .int .i64 y1, .int .i64 x2, .int .i64 y2, .int .i64 x3, .int .i64 y3]) :
    Calls Try.prog 71 #[Sg a b c d, .slice (some ⟨g, 0, none⟩) 4 4] w (BoolP (lefts [turnSp a b c d x0 y0, turnSp a b c d x1 y1, turnSp a b c d x2 y2, turnSp a b c d x3 y3] 4 && rights [turnSp a b c d x0 y0, turnSp a b c d x1 y1, turnSp a b c d x2 y2, turnSp a b c d x3 y3] 4) w) := by
  obtain ⟨ts, hts⟩ : ∃ ts, [turnSp a b c d x0 y0, turnSp a b c d x1 y1, turnSp a b c d x2 y2, turnSp a b c d x3 y3] = ts := ⟨_, rfl⟩
  rw [hts]
  have I0 : PartI w (w.alloc (.cells #[.int .i64 a, .int .i64 b, .int .i64 c, .int .i64 d] 39)) g [.int .i64 a, .int .i64 b, .int .i64 c, .int .i64 d] [.int .i64 x0, .int .i64 y0, .int .i64 x1, .int .i64 y1, .int .i64 x2, .int .i64 y2, .int .i64 x3, .int .i64 y3] :=
    ⟨(Below.refl _ _).alloc (Nat.le_refl _) _, Blk.new w [.int .i64 a, .int .i64 b, .int .i64 c, .int .i64 d] 39 rfl, hS.alloc _⟩
  go_enter Try.func71, Try.ntmps71
  go_wp2
  generalize (w.alloc (.cells #[.int .i64 a, .int .i64 b, .int .i64 c, .int .i64 d] 39)) = W at *
  go_loopw [5, 6, 12] (fun l r i wr => ∃ k : Nat, k ≤ 4 ∧ i = .int .i64 k ∧ l = .bool (lefts ts k) ∧ r = .bool (rights ts k) ∧ PartI w wr g [.int .i64 a, .int .i64 b, .int .i64 c, .int .i64 d] [.int .i64 x0, .int .i64 y0, .int .i64 x1, .int .i64 y1, .int .i64 x2, .int .i64 y2, .int .i64 x3, .int .i64 y3]) (fun _ _ i _ => 4 - (intOf i).toNat)
  case atStart => exact ⟨0, by omega, rfl, rfl, rfl, I0⟩
  case round =>
    clear I0
    obtain ⟨k, hk, rfl, rfl, rfl, I0⟩ := hrel
    have ca0 := I0.seg.c 0 rfl; have ca1 := I0.seg.c 1 rfl; have ca2 := I0.seg.c 2 rfl; have ca3 := I0.seg.c 3 rfl; have calt := I0.seg.lt
    rcases (by omega : k = 0 ∨ k = 1 ∨ k = 2 ∨ k = 3 ∨ k = 4) with rfl | rfl | rfl | rfl | rfl
    · have e1 := I0.row.c 0 rfl; have e2 := I0.row.c 1 rfl
      have K1 := lefts_succ ts 0 (turnSp a b c d x0 y0) (by rw [← hts]; rfl)
      have K2 := rights_succ ts 0 (turnSp a b c d x0 y0) (by rw [← hts]; rfl)
      obtain ⟨L, hL⟩ : ∃ L, lefts ts 0 = L := ⟨_, rfl⟩
      obtain ⟨R, hR⟩ : ∃ R, rights ts 0 = R := ⟨_, rfl⟩
      rw [hL] at K1 ⊢; rw [hR] at K2 ⊢
      clear hL hR hts hS
      go_wp2_with fail
      refine (turnTo_any a b c d x0 y0 ha hb hc hd hx0 hy0 _).mono ?_
      rintro e w1 ⟨rfl, hB⟩
      replace I0 := (I0.alloc _).step hB
      clear ca0 ca1 ca2 ca3 calt e1 e2 hB
      generalize turnSp a b c d x0 y0 = t at *
      cases L <;> cases R
      all_goals go_wp2
      all_goals go_roundw
      all_goals first | exact ⟨0 + 1, by omega, rfl, by rw [K1]; simp, by rw [K2]; simp, I0⟩ | simp [intOf]
    · have e1 := I0.row.c 2 rfl; have e2 := I0.row.c 3 rfl
      have K1 := lefts_succ ts 1 (turnSp a b c d x1 y1) (by rw [← hts]; rfl)
      have K2 := rights_succ ts 1 (turnSp a b c d x1 y1) (by rw [← hts]; rfl)
      obtain ⟨L, hL⟩ : ∃ L, lefts ts 1 = L := ⟨_, rfl⟩
      obtain ⟨R, hR⟩ : ∃ R, rights ts 1 = R := ⟨_, rfl⟩
      rw [hL] at K1 ⊢; rw [hR] at K2 ⊢
      clear hL hR hts hS
      go_wp2_with fail
      refine (turnTo_any a b c d x1 y1 ha hb hc hd hx1 hy1 _).mono ?_
      rintro e w1 ⟨rfl, hB⟩
      replace I0 := (I0.alloc _).step hB
      clear ca0 ca1 ca2 ca3 calt e1 e2 hB
      generalize turnSp a b c d x1 y1 = t at *
      cases L <;> cases R
      all_goals go_wp2
      all_goals go_roundw
      all_goals first | exact ⟨1 + 1, by omega, rfl, by rw [K1]; simp, by rw [K2]; simp, I0⟩ | simp [intOf]
    · have e1 := I0.row.c 4 rfl; have e2 := I0.row.c 5 rfl
      have K1 := lefts_succ ts 2 (turnSp a b c d x2 y2) (by rw [← hts]; rfl)
      have K2 := rights_succ ts 2 (turnSp a b c d x2 y2) (by rw [← hts]; rfl)
      obtain ⟨L, hL⟩ : ∃ L, lefts ts 2 = L := ⟨_, rfl⟩
      obtain ⟨R, hR⟩ : ∃ R, rights ts 2 = R := ⟨_, rfl⟩
      rw [hL] at K1 ⊢; rw [hR] at K2 ⊢
      clear hL hR hts hS
      go_wp2_with fail
      refine (turnTo_any a b c d x2 y2 ha hb hc hd hx2 hy2 _).mono ?_
      rintro e w1 ⟨rfl, hB⟩
      replace I0 := (I0.alloc _).step hB
      clear ca0 ca1 ca2 ca3 calt e1 e2 hB
      generalize turnSp a b c d x2 y2 = t at *
      cases L <;> cases R
      all_goals go_wp2
      all_goals go_roundw
      all_goals first | exact ⟨2 + 1, by omega, rfl, by rw [K1]; simp, by rw [K2]; simp, I0⟩ | simp [intOf]
    · have e1 := I0.row.c 6 rfl; have e2 := I0.row.c 7 rfl
      have K1 := lefts_succ ts 3 (turnSp a b c d x3 y3) (by rw [← hts]; rfl)
      have K2 := rights_succ ts 3 (turnSp a b c d x3 y3) (by rw [← hts]; rfl)
      obtain ⟨L, hL⟩ : ∃ L, lefts ts 3 = L := ⟨_, rfl⟩
      obtain ⟨R, hR⟩ : ∃ R, rights ts 3 = R := ⟨_, rfl⟩
      rw [hL] at K1 ⊢; rw [hR] at K2 ⊢
      clear hL hR hts hS
      go_wp2_with fail
      refine (turnTo_any a b c d x3 y3 ha hb hc hd hx3 hy3 _).mono ?_
      rintro e w1 ⟨rfl, hB⟩
      replace I0 := (I0.alloc _).step hB
      clear ca0 ca1 ca2 ca3 calt e1 e2 hB
      generalize turnSp a b c d x3 y3 = t at *
      cases L <;> cases R
      all_goals go_wp2
      all_goals go_roundw
      all_goals first | exact ⟨3 + 1, by omega, rfl, by rw [K1]; simp, by rw [K2]; simp, I0⟩ | simp [intOf]
    · obtain ⟨L, hL⟩ : ∃ L, lefts ts 4 = L := ⟨_, rfl⟩
      obtain ⟨R, hR⟩ : ∃ R, rights ts 4 = R := ⟨_, rfl⟩
      rw [hL, hR]
      clear hts hS
      cases L <;> cases R
      all_goals go_wp2
      all_goals go_ret
      all_goals exact ⟨ret_bool (by rw [hL, hR]; rfl), I0.below⟩
end Go.Proofs.Ytjhmacpejfldoaa
