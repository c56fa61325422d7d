/- Part 3 of the walks that the proof leans on. -/
import Derived.Test.YtpnnpkchogooaaaPart2
import Derived.Lib.MinMax
import Derived.Test.YtpnnpkchogooaaaPart1
/- Drawn regions of boxes and windows. -/
namespace Go.Proofs.Ytpnnpkchogooaaa
open Go.RowKit
/-- A small number. -/
def Sm (z : Int) : Prop := -6 ≤ z ∧ z < 7
theorem Sm.min {x y : Int} (h : Sm x) (h' : Sm y) : Sm (Min.min x y) := by unfold Sm at *; omega
theorem Sm.max {x y : Int} (h : Sm x) (h' : Sm y) : Sm (Max.max x y) := by unfold Sm at *; omega
def VbxA (_R0 _R1 _A4 _A5 : Nat) (x y r s : Int) (_B : Nat) : Nat → Value → World → Prop
  | 0, v, _ => v = .agg #[.int .i64 x, .int .i64 y]
  | 1, v, _ => v = .agg #[.int .i64 r, .int .i64 s]
  | _, _, _ => True
theorem VbxA.mono {R0 R1 A4 A5 : Nat} {x y r s : Int} {B j : Nat} {v : Value} {W W2 : World} (_hB : Below W.heap.size W W2) (h : VbxA R0 R1 A4 A5 x y r s B j v W) : VbxA R0 R1 A4 A5 x y r s B j v W2 := by
  unfold VbxA at *
  split <;> simp only at h <;> first | exact h | trivial
theorem VbxA.same {R0 R1 A4 A5 : Nat} {x y r s : Int} {B j : Nat} {v : Value} {W W2 : World} (h : VbxA R0 R1 A4 A5 x y r s B j v W) : VbxA R0 R1 A4 A5 x y r s B j v W2 := by
  unfold VbxA at *
  split <;> simp only at h <;> first | exact h | trivial
def SbxA (R0 R1 A4 A5 : Nat) (x y r s : Int) (W : World) : Prop := Blk W A4 [.int .i64 x, .int .i64 y] ∧ Blk W A5 [.int .i64 r, .int .i64 s] ∧ (∃ p q : Int, Sm p ∧ Sm q ∧ Blk W R0 [.int .i64 p, .int .i64 q]) ∧ ∃ p q : Int, Sm p ∧ Sm q ∧ Blk W R1 [.int .i64 p, .int .i64 q]
def JbxA (R0 R1 A4 A5 : Nat) (x y r s : Int) (w0 : World) (a0 : Act) (lz : Array Bool) (az : Act) (W : World) : Prop := InvQ (R0) [some 12, some 13, none, none] (VbxA R0 R1 A4 A5 x y r s (R0)) w0 a0 lz az W ∧ SbxA R0 R1 A4 A5 x y r s W
set_option maxRecDepth 100000 in
set_option maxHeartbeats 4000000 in
theorem bxA {Q : Exit → Act → World → Prop} {R0 R1 A4 A5 : Nat} {x y r s : Int}  {w0 : World} {a0 : Act} {idq : Nat} {t0 t1 t2 t3 : TypeId} {q0 q1 q2 q3 : String}
    (n01 : R0 < R1) (n40 : R1 < A4) (n50 : R1 < A5) (hx : Sm x) (hy : Sm y) (hr : Sm r) (hs' : Sm s) (h4 : a0.tmps[4]? = some (.pointer (some ⟨A4, 0, none⟩))) (h5 : a0.tmps[5]? = some (.pointer (some ⟨A5, 0, none⟩))) (h2 : a0.tmps[2]? = some (.pointer (some ⟨R0, 0, none⟩))) (h3 : a0.tmps[3]? = some (.pointer (some ⟨R1, 0, none⟩)))  (hz : a0.tmps.size = 36) (hs0 : SbxA R0 R1 A4 A5 x y r s w0.drew)
    (hQ : ∀ aq W, aq.tmps.size = a0.tmps.size → aq.defers = a0.defers → (∀ e, e ∉ ([12, 13] : List Nat) → aq.tmps[e]? = a0.tmps[e]?) → Below (R0) w0 W → SbxA R0 R1 A4 A5 x y r s W → Q .normal aq W) :
    (Code.region idq #[{ dst := some 12, op := Op.load 25 (Operand.tmp 4), type := t0, pos := q0, after := #[], guard := none },
    { dst := some 13, op := Op.load 25 (Operand.tmp 5), type := t1, pos := q1, after := #[{ on := 2, ground := Ground.gcOnly Departure.lateStores }], guard := none },
    { dst := none, op := Op.store 25 (Operand.tmp 2) (Operand.tmp 12), type := t2, pos := q2, after := #[{ on := 0, ground := Ground.data }, { on := 0, ground := Ground.phase }, { on := 1, ground := Ground.textOnly Departure.lateStores }], guard := none },
    { dst := none, op := Op.store 25 (Operand.tmp 3) (Operand.tmp 13), type := t3, pos := q3, after := #[{ on := 1, ground := Ground.data }, { on := 2, ground := Ground.chain }, { on := 0, ground := Ground.phase }, { on := 1, ground := Ground.phase }, { on := 2, ground := Ground.phase }], guard := none }] true).wp Try.prog Q a0 w0 := by
  have hS : distS [some 12, some 13, none, none] = true := rfl
  refine wp_region_inv (by kernel_rfl) (JbxA R0 R1 A4 A5 x y r s w0 a0) ⟨⟨rfl, rfl, rfl, fun _ _ => rfl, (Below.refl _ w0).drew, fun j d hj => ?_, fun j hj => ?_⟩, hs0⟩ ?_ ?_
  · exfalso
    rw [Array.getD_eq_getD_getElem?, Array.getElem?_replicate] at hj
    split at hj <;> simp at hj
  · exfalso
    rw [Array.getD_eq_getD_getElem?, Array.getElem?_replicate] at hj
    split at hj <;> simp at hj
  · intro lq aq W iq oq ⟨hJ, hs⟩ hl ho hall
    have hJ2 := hJ
    obtain ⟨z1, z2, z3, z4, z5, z6, z7⟩ := hJ
    obtain ⟨xa, xb, ⟨pa, qa, ipa, iqa, xc⟩, pb, qb, ipb, iqb, xd⟩ := hs
    have ca0 := xa.c 0 rfl; have ca1 := xa.c 1 rfl; have cb0 := xb.c 0 rfl; have cb1 := xb.c 1 rfl
    have rc0 := xc.c 0 rfl; have sc0 := xc.f 0 rfl; have rc1 := xc.c 1 rfl; have sc1 := xc.f 1 rfl; have rlc := xc.lt
    have rd0 := xd.c 0 rfl; have sd0 := xd.f 0 rfl; have rd1 := xd.c 1 rfl; have sd1 := xd.f 1 rfl; have rld := xd.lt
    have hs : SbxA R0 R1 A4 A5 x y r s W := ⟨xa, xb, ⟨pa, qa, ipa, iqa, xc⟩, pb, qb, ipb, iqb, xd⟩
    have g4 : aq.tmps.getD 4 undef = .pointer (some ⟨A4, 0, none⟩) := by rw [Array.getD_eq_getD_getElem?, z4 4 (by decide), h4]; rfl
    have g5 : aq.tmps.getD 5 undef = .pointer (some ⟨A5, 0, none⟩) := by rw [Array.getD_eq_getD_getElem?, z4 5 (by decide), h5]; rfl
    have g2 : aq.tmps.getD 2 undef = .pointer (some ⟨R0, 0, none⟩) := by rw [Array.getD_eq_getD_getElem?, z4 2 (by decide), h2]; rfl
    have g3 : aq.tmps.getD 3 undef = .pointer (some ⟨R1, 0, none⟩) := by rw [Array.getD_eq_getD_getElem?, z4 3 (by decide), h3]; rfl
    match iq, ho with
    | 0, ho =>
      cases ho
      refine wpOp_of rfl rfl ?_
      have hK := fun (v : Value) (W2 : World) hW hT hv (hs : SbxA R0 R1 A4 A5 x y r s W2) => show (JbxA R0 R1 A4 A5 x y r s w0 a0) (lq.setIfInBounds 0 true) (aq.put (some 12) v) W2 from ⟨hJ2.put hS 0 12 rfl (by omega) (W' := W2) hW hT v hv, hs⟩
      clear ho hall hl hQ
      generalize (JbxA R0 R1 A4 A5 x y r s w0 a0) (lq.setIfInBounds 0 true) = K at hK ⊢
      clear hJ2 hS z1 z2 z3 z4 z6 z7
      go_simp
      exact hK _ _ z5 (fun _ _ h => h) rfl hs
    | 1, ho =>
      cases ho
      refine wpOp_of rfl rfl ?_
      have hK := fun (v : Value) (W2 : World) hW hT hv (hs : SbxA R0 R1 A4 A5 x y r s W2) => show (JbxA R0 R1 A4 A5 x y r s w0 a0) (lq.setIfInBounds 1 true) (aq.put (some 13) v) W2 from ⟨hJ2.put hS 1 13 rfl (by omega) (W' := W2) hW hT v hv, hs⟩
      clear ho hall hl hQ
      generalize (JbxA R0 R1 A4 A5 x y r s w0 a0) (lq.setIfInBounds 1 true) = K at hK ⊢
      clear hJ2 hS z1 z2 z3 z4 z6 z7
      go_simp
      exact hK _ _ z5 (fun _ _ h => h) rfl hs
    | 2, ho =>
      cases ho
      refine wpOp_of rfl rfl ?_
      have f0 : (aq.tmps.getD 12 undef) = .agg #[.int .i64 x, .int .i64 y] := z6 0 12 (hall { on := 0, ground := Ground.data } (by simp) rfl) rfl
      have hK := fun (W2 : World) hW hT hv (hs : SbxA R0 R1 A4 A5 x y r s W2) => show (JbxA R0 R1 A4 A5 x y r s w0 a0) (lq.setIfInBounds 2 true) aq W2 from ⟨hJ2.world 2 rfl (W' := W2) hW hT hv, hs⟩
      clear ho hall hl hQ
      generalize (JbxA R0 R1 A4 A5 x y r s w0 a0) (lq.setIfInBounds 2 true) = K at hK ⊢
      clear hJ2 hS z1 z2 z3 z4 z6 z7
      have nb : Blk ((W.setCell ⟨R0, 0, none⟩ (.int .i64 x)).setCell ⟨R0, 1, none⟩ (.int .i64 y)) R0 [.int .i64 x, .int .i64 y] := (xc.setI 0 (by simp) _).setI 1 (by simp) _
      have ns : SbxA R0 R1 A4 A5 x y r s ((W.setCell ⟨R0, 0, none⟩ (.int .i64 x)).setCell ⟨R0, 1, none⟩ (.int .i64 y)) := ⟨(xa.setO (p := ⟨R0, 0, none⟩) (by show _ ≠ R0; omega) _).setO (p := ⟨R0, 1, none⟩) (by show _ ≠ R0; omega) _, (xb.setO (p := ⟨R0, 0, none⟩) (by show _ ≠ R0; omega) _).setO (p := ⟨R0, 1, none⟩) (by show _ ≠ R0; omega) _, ⟨_, _, hx, hy, nb⟩, pb, qb, ipb, iqb, (xd.setO (p := ⟨R0, 0, none⟩) (by show _ ≠ R0; omega) _).setO (p := ⟨R0, 1, none⟩) (by show _ ≠ R0; omega) _⟩
      have nB : Below R0 w0 ((W.setCell ⟨R0, 0, none⟩ (.int .i64 x)).setCell ⟨R0, 1, none⟩ (.int .i64 y)) := (z5.setCell (p := ⟨R0, 0, none⟩) (Nat.le_refl _) _).setCell (p := ⟨R0, 1, none⟩) (Nat.le_refl _) _
      clear xa xb xc xd nb
      go_simp
      exact hK _ nB (fun _ _ h => VbxA.same h) trivial ns
    | 3, ho =>
      cases ho
      refine wpOp_of rfl rfl ?_
      have f1 : (aq.tmps.getD 13 undef) = .agg #[.int .i64 r, .int .i64 s] := z6 1 13 (hall { on := 1, ground := Ground.data } (by simp) rfl) rfl
      have hK := fun (W2 : World) hW hT hv (hs : SbxA R0 R1 A4 A5 x y r s W2) => show (JbxA R0 R1 A4 A5 x y r s w0 a0) (lq.setIfInBounds 3 true) aq W2 from ⟨hJ2.world 3 rfl (W' := W2) hW hT hv, hs⟩
      clear ho hall hl hQ
      generalize (JbxA R0 R1 A4 A5 x y r s w0 a0) (lq.setIfInBounds 3 true) = K at hK ⊢
      clear hJ2 hS z1 z2 z3 z4 z6 z7
      have nb : Blk ((W.setCell ⟨R1, 0, none⟩ (.int .i64 r)).setCell ⟨R1, 1, none⟩ (.int .i64 s)) R1 [.int .i64 r, .int .i64 s] := (xd.setI 0 (by simp) _).setI 1 (by simp) _
      have ns : SbxA R0 R1 A4 A5 x y r s ((W.setCell ⟨R1, 0, none⟩ (.int .i64 r)).setCell ⟨R1, 1, none⟩ (.int .i64 s)) := ⟨(xa.setO (p := ⟨R1, 0, none⟩) (by show _ ≠ R1; omega) _).setO (p := ⟨R1, 1, none⟩) (by show _ ≠ R1; omega) _, (xb.setO (p := ⟨R1, 0, none⟩) (by show _ ≠ R1; omega) _).setO (p := ⟨R1, 1, none⟩) (by show _ ≠ R1; omega) _, ⟨pa, qa, ipa, iqa, (xc.setO (p := ⟨R1, 0, none⟩) (by show _ ≠ R1; omega) _).setO (p := ⟨R1, 1, none⟩) (by show _ ≠ R1; omega) _⟩, _, _, hr, hs', nb⟩
      have nB : Below R0 w0 ((W.setCell ⟨R1, 0, none⟩ (.int .i64 r)).setCell ⟨R1, 1, none⟩ (.int .i64 s)) := (z5.setCell (p := ⟨R1, 0, none⟩) (Nat.le_of_lt n01) _).setCell (p := ⟨R1, 1, none⟩) (Nat.le_of_lt n01) _
      clear xa xb xc xd nb
      go_simp
      exact hK _ nB (fun _ _ h => VbxA.same h) trivial ns
    | iq + 4, ho => simp at ho
  · intro lq aq W ⟨hJ, hs⟩ hr
    obtain ⟨z1, z2, z3, z4, z5, z6, z7⟩ := hJ
    exact hQ aq W z2 z3 (fun e he => z4 e (by simpa using he))  z5 hs
def VbxB (_R0 _R1 A4 A5 : Nat) (x y r s : Int) (_B : Nat) : Nat → Value → World → Prop
  | 0, v, _ => v = .pointer (some ⟨A4, 0, none⟩)
  | 1, v, _ => v = .int .i64 x
  | 2, v, _ => v = .pointer (some ⟨A5, 0, none⟩)
  | 3, v, _ => v = .int .i64 r
  | 4, v, _ => v = .int .i64 (min x r)
  | 5, v, _ => v = .pointer (some ⟨A4, 1, none⟩)
  | 6, v, _ => v = .int .i64 y
  | 7, v, _ => v = .pointer (some ⟨A5, 1, none⟩)
  | 8, v, _ => v = .int .i64 s
  | 9, v, _ => v = .int .i64 (min y s)
  | 10, v, _ => v = .agg #[.int .i64 (min x r), .int .i64 (min y s)]
  | 11, v, _ => v = .pointer (some ⟨A4, 0, none⟩)
  | 12, v, _ => v = .int .i64 x
  | 13, v, _ => v = .pointer (some ⟨A5, 0, none⟩)
  | 14, v, _ => v = .int .i64 r
  | 15, v, _ => v = .int .i64 (max x r)
  | 16, v, _ => v = .pointer (some ⟨A4, 1, none⟩)
  | 17, v, _ => v = .int .i64 y
  | 18, v, _ => v = .pointer (some ⟨A5, 1, none⟩)
  | 19, v, _ => v = .int .i64 s
  | 20, v, _ => v = .int .i64 (max y s)
  | 21, v, _ => v = .agg #[.int .i64 (max x r), .int .i64 (max y s)]
  | _, _, _ => True
theorem VbxB.mono {R0 R1 A4 A5 : Nat} {x y r s : Int} {B j : Nat} {v : Value} {W W2 : World} (_hB : Below W.heap.size W W2) (h : VbxB R0 R1 A4 A5 x y r s B j v W) : VbxB R0 R1 A4 A5 x y r s B j v W2 := by
  unfold VbxB at *
  split <;> simp only at h <;> first | exact h | trivial
theorem VbxB.same {R0 R1 A4 A5 : Nat} {x y r s : Int} {B j : Nat} {v : Value} {W W2 : World} (h : VbxB R0 R1 A4 A5 x y r s B j v W) : VbxB R0 R1 A4 A5 x y r s B j v W2 := by
  unfold VbxB at *
  split <;> simp only at h <;> first | exact h | trivial
def SbxB (R0 R1 A4 A5 : Nat) (x y r s : Int) (W : World) : Prop := Blk W A4 [.int .i64 x, .int .i64 y] ∧ Blk W A5 [.int .i64 r, .int .i64 s] ∧ (∃ p q : Int, Sm p ∧ Sm q ∧ Blk W R0 [.int .i64 p, .int .i64 q]) ∧ ∃ p q : Int, Sm p ∧ Sm q ∧ Blk W R1 [.int .i64 p, .int .i64 q]
def JbxB (R0 R1 A4 A5 : Nat) (x y r s : Int) (w0 : World) (a0 : Act) (lz : Array Bool) (az : Act) (W : World) : Prop := InvQ (R0) [some 14, some 15, some 16, some 17, some 18, some 19, some 20, some 21, some 22, some 23, some 24, some 25, some 26, some 27, some 28, some 29, some 30, some 31, some 32, some 33, some 34, some 35, none, none] (VbxB R0 R1 A4 A5 x y r s (R0)) w0 a0 lz az W ∧ SbxB R0 R1 A4 A5 x y r s W
set_option maxRecDepth 100000 in
set_option maxHeartbeats 4000000 in
theorem bxB {Q : Exit → Act → World → Prop} {R0 R1 A4 A5 : Nat} {x y r s : Int}  {w0 : World} {a0 : Act} {idq : Nat} {t0 t1 t2 t3 t4 t5 t6 t7 t8 t9 t10 t11 t12 t13 t14 t15 t16 t17 t18 t19 t20 t21 t22 t23 : TypeId} {q0 q1 q2 q3 q4 q5 q6 q7 q8 q9 q10 q11 q12 q13 q14 q15 q16 q17 q18 q19 q20 q21 q22 q23 : String}
    (n01 : R0 < R1) (n40 : R1 < A4) (n50 : R1 < A5) (hx : Sm x) (hy : Sm y) (hr : Sm r) (hs' : Sm s) (h4 : a0.tmps[4]? = some (.pointer (some ⟨A4, 0, none⟩))) (h5 : a0.tmps[5]? = some (.pointer (some ⟨A5, 0, none⟩))) (h2 : a0.tmps[2]? = some (.pointer (some ⟨R0, 0, none⟩))) (h3 : a0.tmps[3]? = some (.pointer (some ⟨R1, 0, none⟩)))  (hz : a0.tmps.size = 36) (hs0 : SbxB R0 R1 A4 A5 x y r s w0.drew)
    (hQ : ∀ aq W, aq.tmps.size = a0.tmps.size → aq.defers = a0.defers → (∀ e, e ∉ ([14, 15, 16, 17, 18, 19, 20, 21, 22, 23, 24, 25, 26, 27, 28, 29, 30, 31, 32, 33, 34, 35] : List Nat) → aq.tmps[e]? = a0.tmps[e]?) → Below (R0) w0 W → SbxB R0 R1 A4 A5 x y r s W → Q .normal aq W) :
    (Code.region idq #[{ dst := some 14, op := Op.fieldAddr 25 (Operand.tmp 4) 0, type := t0, pos := q0, after := #[], guard := none },
    { dst := some 15, op := Op.load 2 (Operand.tmp 14), type := t1, pos := q1, after := #[{ on := 0, ground := Ground.data }], guard := none },
    { dst := some 16, op := Op.fieldAddr 25 (Operand.tmp 5) 0, type := t2, pos := q2, after := #[], guard := none },
    { dst := some 17, op := Op.load 2 (Operand.tmp 16), type := t3, pos := q3, after := #[{ on := 2, ground := Ground.data }], guard := none },
    { dst := some 18, op := Op.call { callee := Callee.builtin Builtin.min, args := #[Operand.tmp 15, Operand.tmp 17], argTypes := #[2, 2] }, type := t4, pos := q4, after := #[{ on := 1, ground := Ground.data }, { on := 3, ground := Ground.data }], guard := none },
    { dst := some 19, op := Op.fieldAddr 25 (Operand.tmp 4) 1, type := t5, pos := q5, after := #[], guard := none },
    { dst := some 20, op := Op.load 2 (Operand.tmp 19), type := t6, pos := q6, after := #[{ on := 5, ground := Ground.data }], guard := none },
    { dst := some 21, op := Op.fieldAddr 25 (Operand.tmp 5) 1, type := t7, pos := q7, after := #[], guard := none },
    { dst := some 22, op := Op.load 2 (Operand.tmp 21), type := t8, pos := q8, after := #[{ on := 7, ground := Ground.data }], guard := none },
    { dst := some 23, op := Op.call { callee := Callee.builtin Builtin.min, args := #[Operand.tmp 20, Operand.tmp 22], argTypes := #[2, 2] }, type := t9, pos := q9, after := #[{ on := 6, ground := Ground.data }, { on := 8, ground := Ground.data }], guard := none },
    { dst := some 24, op := Op.build 25 #[(0, Operand.tmp 18), (1, Operand.tmp 23)], type := t10, pos := q10, after := #[{ on := 4, ground := Ground.data }, { on := 9, ground := Ground.data }], guard := none },
    { dst := some 25, op := Op.fieldAddr 25 (Operand.tmp 4) 0, type := t11, pos := q11, after := #[], guard := none },
    { dst := some 26, op := Op.load 2 (Operand.tmp 25), type := t12, pos := q12, after := #[{ on := 11, ground := Ground.data }], guard := none },
    { dst := some 27, op := Op.fieldAddr 25 (Operand.tmp 5) 0, type := t13, pos := q13, after := #[], guard := none },
    { dst := some 28, op := Op.load 2 (Operand.tmp 27), type := t14, pos := q14, after := #[{ on := 13, ground := Ground.data }], guard := none },
    { dst := some 29, op := Op.call { callee := Callee.builtin Builtin.max, args := #[Operand.tmp 26, Operand.tmp 28], argTypes := #[2, 2] }, type := t15, pos := q15, after := #[{ on := 12, ground := Ground.data }, { on := 14, ground := Ground.data }], guard := none },
    { dst := some 30, op := Op.fieldAddr 25 (Operand.tmp 4) 1, type := t16, pos := q16, after := #[], guard := none },
    { dst := some 31, op := Op.load 2 (Operand.tmp 30), type := t17, pos := q17, after := #[{ on := 16, ground := Ground.data }], guard := none },
    { dst := some 32, op := Op.fieldAddr 25 (Operand.tmp 5) 1, type := t18, pos := q18, after := #[], guard := none },
    { dst := some 33, op := Op.load 2 (Operand.tmp 32), type := t19, pos := q19, after := #[{ on := 18, ground := Ground.data }], guard := none },
    { dst := some 34, op := Op.call { callee := Callee.builtin Builtin.max, args := #[Operand.tmp 31, Operand.tmp 33], argTypes := #[2, 2] }, type := t20, pos := q20, after := #[{ on := 17, ground := Ground.data }, { on := 19, ground := Ground.data }], guard := none },
    { dst := some 35, op := Op.build 25 #[(0, Operand.tmp 29), (1, Operand.tmp 34)], type := t21, pos := q21, after := #[{ on := 15, ground := Ground.data }, { on := 20, ground := Ground.data }, { on := 22, ground := Ground.gcOnly Departure.lateStores }], guard := none },
    { dst := none, op := Op.store 25 (Operand.tmp 2) (Operand.tmp 24), type := t22, pos := q22, after := #[{ on := 10, ground := Ground.data }, { on := 0, ground := Ground.phase }, { on := 1, ground := Ground.phase }, { on := 2, ground := Ground.phase }, { on := 3, ground := Ground.phase }, { on := 4, ground := Ground.phase }, { on := 5, ground := Ground.phase }, { on := 6, ground := Ground.phase }, { on := 7, ground := Ground.phase }, { on := 8, ground := Ground.phase }, { on := 9, ground := Ground.phase }, { on := 10, ground := Ground.phase }, { on := 11, ground := Ground.textOnly Departure.lateStores }, { on := 12, ground := Ground.textOnly Departure.lateStores }, { on := 13, ground := Ground.textOnly Departure.lateStores }, { on := 14, ground := Ground.textOnly Departure.lateStores }, { on := 15, ground := Ground.textOnly Departure.lateStoresUnsure }, { on := 16, ground := Ground.textOnly Departure.lateStores }, { on := 17, ground := Ground.textOnly Departure.lateStores }, { on := 18, ground := Ground.textOnly Departure.lateStores }, { on := 19, ground := Ground.textOnly Departure.lateStores }, { on := 20, ground := Ground.textOnly Departure.lateStoresUnsure }, { on := 21, ground := Ground.textOnly Departure.lateStores }], guard := none },
    { dst := none, op := Op.store 25 (Operand.tmp 3) (Operand.tmp 35), type := t23, pos := q23, after := #[{ on := 21, ground := Ground.data }, { on := 22, ground := Ground.chain }, { on := 0, ground := Ground.phase }, { on := 1, ground := Ground.phase }, { on := 2, ground := Ground.phase }, { on := 3, ground := Ground.phase }, { on := 4, ground := Ground.phase }, { on := 5, ground := Ground.phase }, { on := 6, ground := Ground.phase }, { on := 7, ground := Ground.phase }, { on := 8, ground := Ground.phase }, { on := 9, ground := Ground.phase }, { on := 10, ground := Ground.phase }, { on := 11, ground := Ground.phase }, { on := 12, ground := Ground.phase }, { on := 13, ground := Ground.phase }, { on := 14, ground := Ground.phase }, { on := 15, ground := Ground.phase }, { on := 16, ground := Ground.phase }, { on := 17, ground := Ground.phase }, { on := 18, ground := Ground.phase }, { on := 19, ground := Ground.phase }, { on := 20, ground := Ground.phase }, { on := 21, ground := Ground.phase }, { on := 22, ground := Ground.phase }], guard := none }] true).wp Try.prog Q a0 w0 := by
  have hS : distS [some 14, some 15, some 16, some 17, some 18, some 19, some 20, some 21, some 22, some 23, some 24, some 25, some 26, some 27, some 28, some 29, some 30, some 31, some 32, some 33, some 34, some 35, none, none] = true := rfl
  refine wp_region_inv (by kernel_rfl) (JbxB R0 R1 A4 A5 x y r s w0 a0) ⟨⟨rfl, rfl, rfl, fun _ _ => rfl, (Below.refl _ w0).drew, fun j d hj => ?_, fun j hj => ?_⟩, hs0⟩ ?_ ?_
  · exfalso
    rw [Array.getD_eq_getD_getElem?, Array.getElem?_replicate] at hj
    split at hj <;> simp at hj
  · exfalso
    rw [Array.getD_eq_getD_getElem?, Array.getElem?_replicate] at hj
    split at hj <;> simp at hj
  · intro lq aq W iq oq ⟨hJ, hs⟩ hl ho hall
    have hJ2 := hJ
    obtain ⟨z1, z2, z3, z4, z5, z6, z7⟩ := hJ
    obtain ⟨xa, xb, ⟨pa, qa, ipa, iqa, xc⟩, pb, qb, ipb, iqb, xd⟩ := hs
    have ca0 := xa.c 0 rfl; have ca1 := xa.c 1 rfl; have cb0 := xb.c 0 rfl; have cb1 := xb.c 1 rfl
    have rc0 := xc.c 0 rfl; have sc0 := xc.f 0 rfl; have rc1 := xc.c 1 rfl; have sc1 := xc.f 1 rfl; have rlc := xc.lt
    have rd0 := xd.c 0 rfl; have sd0 := xd.f 0 rfl; have rd1 := xd.c 1 rfl; have sd1 := xd.f 1 rfl; have rld := xd.lt
    have hs : SbxB R0 R1 A4 A5 x y r s W := ⟨xa, xb, ⟨pa, qa, ipa, iqa, xc⟩, pb, qb, ipb, iqb, xd⟩
    have g4 : aq.tmps.getD 4 undef = .pointer (some ⟨A4, 0, none⟩) := by rw [Array.getD_eq_getD_getElem?, z4 4 (by decide), h4]; rfl
    have g5 : aq.tmps.getD 5 undef = .pointer (some ⟨A5, 0, none⟩) := by rw [Array.getD_eq_getD_getElem?, z4 5 (by decide), h5]; rfl
    have g2 : aq.tmps.getD 2 undef = .pointer (some ⟨R0, 0, none⟩) := by rw [Array.getD_eq_getD_getElem?, z4 2 (by decide), h2]; rfl
    have g3 : aq.tmps.getD 3 undef = .pointer (some ⟨R1, 0, none⟩) := by rw [Array.getD_eq_getD_getElem?, z4 3 (by decide), h3]; rfl
    match iq, ho with
    | 0, ho =>
      cases ho
      refine wpOp_of rfl rfl ?_
      have hK := fun (v : Value) (W2 : World) hW hT hv (hs : SbxB R0 R1 A4 A5 x y r s W2) => show (JbxB R0 R1 A4 A5 x y r s w0 a0) (lq.setIfInBounds 0 true) (aq.put (some 14) v) W2 from ⟨hJ2.put hS 0 14 rfl (by omega) (W' := W2) hW hT v hv, hs⟩
      clear ho hall hl hQ
      generalize (JbxB R0 R1 A4 A5 x y r s w0 a0) (lq.setIfInBounds 0 true) = K at hK ⊢
      clear hJ2 hS z1 z2 z3 z4 z6 z7
      go_simp
      exact hK _ _ z5 (fun _ _ h => h) rfl hs
    | 1, ho =>
      cases ho
      refine wpOp_of rfl rfl ?_
      have f0 : (aq.tmps.getD 14 undef) = .pointer (some ⟨A4, 0, none⟩) := z6 0 14 (hall { on := 0, ground := Ground.data } (by simp) rfl) rfl
      have hK := fun (v : Value) (W2 : World) hW hT hv (hs : SbxB R0 R1 A4 A5 x y r s W2) => show (JbxB R0 R1 A4 A5 x y r s w0 a0) (lq.setIfInBounds 1 true) (aq.put (some 15) v) W2 from ⟨hJ2.put hS 1 15 rfl (by omega) (W' := W2) hW hT v hv, hs⟩
      clear ho hall hl hQ
      generalize (JbxB R0 R1 A4 A5 x y r s w0 a0) (lq.setIfInBounds 1 true) = K at hK ⊢
      clear hJ2 hS z1 z2 z3 z4 z6 z7
      go_simp
      exact hK _ _ z5 (fun _ _ h => h) rfl hs
    | 2, ho =>
      cases ho
      refine wpOp_of rfl rfl ?_
      have hK := fun (v : Value) (W2 : World) hW hT hv (hs : SbxB R0 R1 A4 A5 x y r s W2) => show (JbxB R0 R1 A4 A5 x y r s w0 a0) (lq.setIfInBounds 2 true) (aq.put (some 16) v) W2 from ⟨hJ2.put hS 2 16 rfl (by omega) (W' := W2) hW hT v hv, hs⟩
      clear ho hall hl hQ
      generalize (JbxB R0 R1 A4 A5 x y r s w0 a0) (lq.setIfInBounds 2 true) = K at hK ⊢
      clear hJ2 hS z1 z2 z3 z4 z6 z7
      go_simp
      exact hK _ _ z5 (fun _ _ h => h) rfl hs
    | 3, ho =>
      cases ho
      refine wpOp_of rfl rfl ?_
      have f2 : (aq.tmps.getD 16 undef) = .pointer (some ⟨A5, 0, none⟩) := z6 2 16 (hall { on := 2, ground := Ground.data } (by simp) rfl) rfl
      have hK := fun (v : Value) (W2 : World) hW hT hv (hs : SbxB R0 R1 A4 A5 x y r s W2) => show (JbxB R0 R1 A4 A5 x y r s w0 a0) (lq.setIfInBounds 3 true) (aq.put (some 17) v) W2 from ⟨hJ2.put hS 3 17 rfl (by omega) (W' := W2) hW hT v hv, hs⟩
      clear ho hall hl hQ
      generalize (JbxB R0 R1 A4 A5 x y r s w0 a0) (lq.setIfInBounds 3 true) = K at hK ⊢
      clear hJ2 hS z1 z2 z3 z4 z6 z7
      go_simp
      exact hK _ _ z5 (fun _ _ h => h) rfl hs
    | 4, ho =>
      cases ho
      refine wpOp_of rfl rfl ?_
      have f1 : (aq.tmps.getD 15 undef) = .int .i64 x := z6 1 15 (hall { on := 1, ground := Ground.data } (by simp) rfl) rfl
      have f3 : (aq.tmps.getD 17 undef) = .int .i64 r := z6 3 17 (hall { on := 3, ground := Ground.data } (by simp) rfl) rfl
      have hK := fun (v : Value) (W2 : World) hW hT hv (hs : SbxB R0 R1 A4 A5 x y r s W2) => show (JbxB R0 R1 A4 A5 x y r s w0 a0) (lq.setIfInBounds 4 true) (aq.put (some 18) v) W2 from ⟨hJ2.put hS 4 18 rfl (by omega) (W' := W2) hW hT v hv, hs⟩
      clear ho hall hl hQ
      generalize (JbxB R0 R1 A4 A5 x y r s w0 a0) (lq.setIfInBounds 4 true) = K at hK ⊢
      clear hJ2 hS z1 z2 z3 z4 z6 z7
      go_simp
      exact hK _ _ z5 (fun _ _ h => h) rfl hs
    | 5, ho =>
      cases ho
      refine wpOp_of rfl rfl ?_
      have hK := fun (v : Value) (W2 : World) hW hT hv (hs : SbxB R0 R1 A4 A5 x y r s W2) => show (JbxB R0 R1 A4 A5 x y r s w0 a0) (lq.setIfInBounds 5 true) (aq.put (some 19) v) W2 from ⟨hJ2.put hS 5 19 rfl (by omega) (W' := W2) hW hT v hv, hs⟩
      clear ho hall hl hQ
      generalize (JbxB R0 R1 A4 A5 x y r s w0 a0) (lq.setIfInBounds 5 true) = K at hK ⊢
      clear hJ2 hS z1 z2 z3 z4 z6 z7
      go_simp
      exact hK _ _ z5 (fun _ _ h => h) rfl hs
    | 6, ho =>
      cases ho
      refine wpOp_of rfl rfl ?_
      have f5 : (aq.tmps.getD 19 undef) = .pointer (some ⟨A4, 1, none⟩) := z6 5 19 (hall { on := 5, ground := Ground.data } (by simp) rfl) rfl
      have hK := fun (v : Value) (W2 : World) hW hT hv (hs : SbxB R0 R1 A4 A5 x y r s W2) => show (JbxB R0 R1 A4 A5 x y r s w0 a0) (lq.setIfInBounds 6 true) (aq.put (some 20) v) W2 from ⟨hJ2.put hS 6 20 rfl (by omega) (W' := W2) hW hT v hv, hs⟩
      clear ho hall hl hQ
      generalize (JbxB R0 R1 A4 A5 x y r s w0 a0) (lq.setIfInBounds 6 true) = K at hK ⊢
      clear hJ2 hS z1 z2 z3 z4 z6 z7
      go_simp
      exact hK _ _ z5 (fun _ _ h => h) rfl hs
    | 7, ho =>
      cases ho
      refine wpOp_of rfl rfl ?_
      have hK := fun (v : Value) (W2 : World) hW hT hv (hs : SbxB R0 R1 A4 A5 x y r s W2) => show (JbxB R0 R1 A4 A5 x y r s w0 a0) (lq.setIfInBounds 7 true) (aq.put (some 21) v) W2 from ⟨hJ2.put hS 7 21 rfl (by omega) (W' := W2) hW hT v hv, hs⟩
      clear ho hall hl hQ
      generalize (JbxB R0 R1 A4 A5 x y r s w0 a0) (lq.setIfInBounds 7 true) = K at hK ⊢
      clear hJ2 hS z1 z2 z3 z4 z6 z7
      go_simp
      exact hK _ _ z5 (fun _ _ h => h) rfl hs
    | 8, ho =>
      cases ho
      refine wpOp_of rfl rfl ?_
      have f7 : (aq.tmps.getD 21 undef) = .pointer (some ⟨A5, 1, none⟩) := z6 7 21 (hall { on := 7, ground := Ground.data } (by simp) rfl) rfl
      have hK := fun (v : Value) (W2 : World) hW hT hv (hs : SbxB R0 R1 A4 A5 x y r s W2) => show (JbxB R0 R1 A4 A5 x y r s w0 a0) (lq.setIfInBounds 8 true) (aq.put (some 22) v) W2 from ⟨hJ2.put hS 8 22 rfl (by omega) (W' := W2) hW hT v hv, hs⟩
      clear ho hall hl hQ
      generalize (JbxB R0 R1 A4 A5 x y r s w0 a0) (lq.setIfInBounds 8 true) = K at hK ⊢
      clear hJ2 hS z1 z2 z3 z4 z6 z7
      go_simp
      exact hK _ _ z5 (fun _ _ h => h) rfl hs
    | 9, ho =>
      cases ho
      refine wpOp_of rfl rfl ?_
      have f6 : (aq.tmps.getD 20 undef) = .int .i64 y := z6 6 20 (hall { on := 6, ground := Ground.data } (by simp) rfl) rfl
      have f8 : (aq.tmps.getD 22 undef) = .int .i64 s := z6 8 22 (hall { on := 8, ground := Ground.data } (by simp) rfl) rfl
      have hK := fun (v : Value) (W2 : World) hW hT hv (hs : SbxB R0 R1 A4 A5 x y r s W2) => show (JbxB R0 R1 A4 A5 x y r s w0 a0) (lq.setIfInBounds 9 true) (aq.put (some 23) v) W2 from ⟨hJ2.put hS 9 23 rfl (by omega) (W' := W2) hW hT v hv, hs⟩
      clear ho hall hl hQ
      generalize (JbxB R0 R1 A4 A5 x y r s w0 a0) (lq.setIfInBounds 9 true) = K at hK ⊢
      clear hJ2 hS z1 z2 z3 z4 z6 z7
      go_simp
      exact hK _ _ z5 (fun _ _ h => h) rfl hs
    | 10, ho =>
      cases ho
      refine wpOp_of rfl rfl ?_
      have f4 : (aq.tmps.getD 18 undef) = .int .i64 (min x r) := z6 4 18 (hall { on := 4, ground := Ground.data } (by simp) rfl) rfl
      have f9 : (aq.tmps.getD 23 undef) = .int .i64 (min y s) := z6 9 23 (hall { on := 9, ground := Ground.data } (by simp) rfl) rfl
      rw [Array.getD_eq_getD_getElem?] at f4 f9
      have hK := fun (v : Value) (W2 : World) hW hT hv (hs : SbxB R0 R1 A4 A5 x y r s W2) => show (JbxB R0 R1 A4 A5 x y r s w0 a0) (lq.setIfInBounds 10 true) (aq.put (some 24) v) W2 from ⟨hJ2.put hS 10 24 rfl (by omega) (W' := W2) hW hT v hv, hs⟩
      clear ho hall hl hQ
      generalize (JbxB R0 R1 A4 A5 x y r s w0 a0) (lq.setIfInBounds 10 true) = K at hK ⊢
      clear hJ2 hS z1 z2 z3 z4 z6 z7
      go_simp
      exact hK _ _ z5 (fun _ _ h => h) rfl hs
    | 11, ho =>
      cases ho
      refine wpOp_of rfl rfl ?_
      have hK := fun (v : Value) (W2 : World) hW hT hv (hs : SbxB R0 R1 A4 A5 x y r s W2) => show (JbxB R0 R1 A4 A5 x y r s w0 a0) (lq.setIfInBounds 11 true) (aq.put (some 25) v) W2 from ⟨hJ2.put hS 11 25 rfl (by omega) (W' := W2) hW hT v hv, hs⟩
      clear ho hall hl hQ
      generalize (JbxB R0 R1 A4 A5 x y r s w0 a0) (lq.setIfInBounds 11 true) = K at hK ⊢
      clear hJ2 hS z1 z2 z3 z4 z6 z7
      go_simp
      exact hK _ _ z5 (fun _ _ h => h) rfl hs
    | 12, ho =>
      cases ho
      refine wpOp_of rfl rfl ?_
      have f11 : (aq.tmps.getD 25 undef) = .pointer (some ⟨A4, 0, none⟩) := z6 11 25 (hall { on := 11, ground := Ground.data } (by simp) rfl) rfl
      have hK := fun (v : Value) (W2 : World) hW hT hv (hs : SbxB R0 R1 A4 A5 x y r s W2) => show (JbxB R0 R1 A4 A5 x y r s w0 a0) (lq.setIfInBounds 12 true) (aq.put (some 26) v) W2 from ⟨hJ2.put hS 12 26 rfl (by omega) (W' := W2) hW hT v hv, hs⟩
      clear ho hall hl hQ
      generalize (JbxB R0 R1 A4 A5 x y r s w0 a0) (lq.setIfInBounds 12 true) = K at hK ⊢
      clear hJ2 hS z1 z2 z3 z4 z6 z7
      go_simp
      exact hK _ _ z5 (fun _ _ h => h) rfl hs
    | 13, ho =>
      cases ho
      refine wpOp_of rfl rfl ?_
      have hK := fun (v : Value) (W2 : World) hW hT hv (hs : SbxB R0 R1 A4 A5 x y r s W2) => show (JbxB R0 R1 A4 A5 x y r s w0 a0) (lq.setIfInBounds 13 true) (aq.put (some 27) v) W2 from ⟨hJ2.put hS 13 27 rfl (by omega) (W' := W2) hW hT v hv, hs⟩
      clear ho hall hl hQ
      generalize (JbxB R0 R1 A4 A5 x y r s w0 a0) (lq.setIfInBounds 13 true) = K at hK ⊢
      clear hJ2 hS z1 z2 z3 z4 z6 z7
      go_simp
      exact hK _ _ z5 (fun _ _ h => h) rfl hs
    | 14, ho =>
      cases ho
      refine wpOp_of rfl rfl ?_
      have f13 : (aq.tmps.getD 27 undef) = .pointer (some ⟨A5, 0, none⟩) := z6 13 27 (hall { on := 13, ground := Ground.data } (by simp) rfl) rfl
      have hK := fun (v : Value) (W2 : World) hW hT hv (hs : SbxB R0 R1 A4 A5 x y r s W2) => show (JbxB R0 R1 A4 A5 x y r s w0 a0) (lq.setIfInBounds 14 true) (aq.put (some 28) v) W2 from ⟨hJ2.put hS 14 28 rfl (by omega) (W' := W2) hW hT v hv, hs⟩
      clear ho hall hl hQ
      generalize (JbxB R0 R1 A4 A5 x y r s w0 a0) (lq.setIfInBounds 14 true) = K at hK ⊢
      clear hJ2 hS z1 z2 z3 z4 z6 z7
      go_simp
      exact hK _ _ z5 (fun _ _ h => h) rfl hs
    | 15, ho =>
      cases ho
      refine wpOp_of rfl rfl ?_
      have f12 : (aq.tmps.getD 26 undef) = .int .i64 x := z6 12 26 (hall { on := 12, ground := Ground.data } (by simp) rfl) rfl
      have f14 : (aq.tmps.getD 28 undef) = .int .i64 r := z6 14 28 (hall { on := 14, ground := Ground.data } (by simp) rfl) rfl
      have hK := fun (v : Value) (W2 : World) hW hT hv (hs : SbxB R0 R1 A4 A5 x y r s W2) => show (JbxB R0 R1 A4 A5 x y r s w0 a0) (lq.setIfInBounds 15 true) (aq.put (some 29) v) W2 from ⟨hJ2.put hS 15 29 rfl (by omega) (W' := W2) hW hT v hv, hs⟩
      clear ho hall hl hQ
      generalize (JbxB R0 R1 A4 A5 x y r s w0 a0) (lq.setIfInBounds 15 true) = K at hK ⊢
      clear hJ2 hS z1 z2 z3 z4 z6 z7
      go_simp
      exact hK _ _ z5 (fun _ _ h => h) rfl hs
    | 16, ho =>
      cases ho
      refine wpOp_of rfl rfl ?_
      have hK := fun (v : Value) (W2 : World) hW hT hv (hs : SbxB R0 R1 A4 A5 x y r s W2) => show (JbxB R0 R1 A4 A5 x y r s w0 a0) (lq.setIfInBounds 16 true) (aq.put (some 30) v) W2 from ⟨hJ2.put hS 16 30 rfl (by omega) (W' := W2) hW hT v hv, hs⟩
      clear ho hall hl hQ
      generalize (JbxB R0 R1 A4 A5 x y r s w0 a0) (lq.setIfInBounds 16 true) = K at hK ⊢
      clear hJ2 hS z1 z2 z3 z4 z6 z7
      go_simp
      exact hK _ _ z5 (fun _ _ h => h) rfl hs
    | 17, ho =>
      cases ho
      refine wpOp_of rfl rfl ?_
      have f16 : (aq.tmps.getD 30 undef) = .pointer (some ⟨A4, 1, none⟩) := z6 16 30 (hall { on := 16, ground := Ground.data } (by simp) rfl) rfl
      have hK := fun (v : Value) (W2 : World) hW hT hv (hs : SbxB R0 R1 A4 A5 x y r s W2) => show (JbxB R0 R1 A4 A5 x y r s w0 a0) (lq.setIfInBounds 17 true) (aq.put (some 31) v) W2 from ⟨hJ2.put hS 17 31 rfl (by omega) (W' := W2) hW hT v hv, hs⟩
      clear ho hall hl hQ
      generalize (JbxB R0 R1 A4 A5 x y r s w0 a0) (lq.setIfInBounds 17 true) = K at hK ⊢
      clear hJ2 hS z1 z2 z3 z4 z6 z7
      go_simp
      exact hK _ _ z5 (fun _ _ h => h) rfl hs
    | 18, ho =>
      cases ho
      refine wpOp_of rfl rfl ?_
      have hK := fun (v : Value) (W2 : World) hW hT hv (hs : SbxB R0 R1 A4 A5 x y r s W2) => show (JbxB R0 R1 A4 A5 x y r s w0 a0) (lq.setIfInBounds 18 true) (aq.put (some 32) v) W2 from ⟨hJ2.put hS 18 32 rfl (by omega) (W' := W2) hW hT v hv, hs⟩
      clear ho hall hl hQ
      generalize (JbxB R0 R1 A4 A5 x y r s w0 a0) (lq.setIfInBounds 18 true) = K at hK ⊢
      clear hJ2 hS z1 z2 z3 z4 z6 z7
      go_simp
      exact hK _ _ z5 (fun _ _ h => h) rfl hs
    | 19, ho =>
      cases ho
      refine wpOp_of rfl rfl ?_
      have f18 : (aq.tmps.getD 32 undef) = .pointer (some ⟨A5, 1, none⟩) := z6 18 32 (hall { on := 18, ground := Ground.data } (by simp) rfl) rfl
      have hK := fun (v : Value) (W2 : World) hW hT hv (hs : SbxB R0 R1 A4 A5 x y r s W2) => show (JbxB R0 R1 A4 A5 x y r s w0 a0) (lq.setIfInBounds 19 true) (aq.put (some 33) v) W2 from ⟨hJ2.put hS 19 33 rfl (by omega) (W' := W2) hW hT v hv, hs⟩
      clear ho hall hl hQ
      generalize (JbxB R0 R1 A4 A5 x y r s w0 a0) (lq.setIfInBounds 19 true) = K at hK ⊢
      clear hJ2 hS z1 z2 z3 z4 z6 z7
      go_simp
      exact hK _ _ z5 (fun _ _ h => h) rfl hs
    | 20, ho =>
      cases ho
      refine wpOp_of rfl rfl ?_
      have f17 : (aq.tmps.getD 31 undef) = .int .i64 y := z6 17 31 (hall { on := 17, ground := Ground.data } (by simp) rfl) rfl
      have f19 : (aq.tmps.getD 33 undef) = .int .i64 s := z6 19 33 (hall { on := 19, ground := Ground.data } (by simp) rfl) rfl
      have hK := fun (v : Value) (W2 : World) hW hT hv (hs : SbxB R0 R1 A4 A5 x y r s W2) => show (JbxB R0 R1 A4 A5 x y r s w0 a0) (lq.setIfInBounds 20 true) (aq.put (some 34) v) W2 from ⟨hJ2.put hS 20 34 rfl (by omega) (W' := W2) hW hT v hv, hs⟩
      clear ho hall hl hQ
      generalize (JbxB R0 R1 A4 A5 x y r s w0 a0) (lq.setIfInBounds 20 true) = K at hK ⊢
      clear hJ2 hS z1 z2 z3 z4 z6 z7
      go_simp
      exact hK _ _ z5 (fun _ _ h => h) rfl hs
    | 21, ho =>
      cases ho
      refine wpOp_of rfl rfl ?_
      have f15 : (aq.tmps.getD 29 undef) = .int .i64 (max x r) := z6 15 29 (hall { on := 15, ground := Ground.data } (by simp) rfl) rfl
      have f20 : (aq.tmps.getD 34 undef) = .int .i64 (max y s) := z6 20 34 (hall { on := 20, ground := Ground.data } (by simp) rfl) rfl
      rw [Array.getD_eq_getD_getElem?] at f15 f20
      have hK := fun (v : Value) (W2 : World) hW hT hv (hs : SbxB R0 R1 A4 A5 x y r s W2) => show (JbxB R0 R1 A4 A5 x y r s w0 a0) (lq.setIfInBounds 21 true) (aq.put (some 35) v) W2 from ⟨hJ2.put hS 21 35 rfl (by omega) (W' := W2) hW hT v hv, hs⟩
      clear ho hall hl hQ
      generalize (JbxB R0 R1 A4 A5 x y r s w0 a0) (lq.setIfInBounds 21 true) = K at hK ⊢
      clear hJ2 hS z1 z2 z3 z4 z6 z7
      go_simp
      exact hK _ _ z5 (fun _ _ h => h) rfl hs
    | 22, ho =>
      cases ho
      refine wpOp_of rfl rfl ?_
      have f10 : (aq.tmps.getD 24 undef) = .agg #[.int .i64 (min x r), .int .i64 (min y s)] := z6 10 24 (hall { on := 10, ground := Ground.data } (by simp) rfl) rfl
      have hK := fun (W2 : World) hW hT hv (hs : SbxB R0 R1 A4 A5 x y r s W2) => show (JbxB R0 R1 A4 A5 x y r s w0 a0) (lq.setIfInBounds 22 true) aq W2 from ⟨hJ2.world 22 rfl (W' := W2) hW hT hv, hs⟩
      clear ho hall hl hQ
      generalize (JbxB R0 R1 A4 A5 x y r s w0 a0) (lq.setIfInBounds 22 true) = K at hK ⊢
      clear hJ2 hS z1 z2 z3 z4 z6 z7
      have nb : Blk ((W.setCell ⟨R0, 0, none⟩ (.int .i64 (min x r))).setCell ⟨R0, 1, none⟩ (.int .i64 (min y s))) R0 [.int .i64 (min x r), .int .i64 (min y s)] := (xc.setI 0 (by simp) _).setI 1 (by simp) _
      have ns : SbxB R0 R1 A4 A5 x y r s ((W.setCell ⟨R0, 0, none⟩ (.int .i64 (min x r))).setCell ⟨R0, 1, none⟩ (.int .i64 (min y s))) := ⟨(xa.setO (p := ⟨R0, 0, none⟩) (by show _ ≠ R0; omega) _).setO (p := ⟨R0, 1, none⟩) (by show _ ≠ R0; omega) _, (xb.setO (p := ⟨R0, 0, none⟩) (by show _ ≠ R0; omega) _).setO (p := ⟨R0, 1, none⟩) (by show _ ≠ R0; omega) _, ⟨_, _, hx.min hr, hy.min hs', nb⟩, pb, qb, ipb, iqb, (xd.setO (p := ⟨R0, 0, none⟩) (by show _ ≠ R0; omega) _).setO (p := ⟨R0, 1, none⟩) (by show _ ≠ R0; omega) _⟩
      have nB : Below R0 w0 ((W.setCell ⟨R0, 0, none⟩ (.int .i64 (min x r))).setCell ⟨R0, 1, none⟩ (.int .i64 (min y s))) := (z5.setCell (p := ⟨R0, 0, none⟩) (Nat.le_refl _) _).setCell (p := ⟨R0, 1, none⟩) (Nat.le_refl _) _
      clear xa xb xc xd nb
      go_simp
      exact hK _ nB (fun _ _ h => VbxB.same h) trivial ns
    | 23, ho =>
      cases ho
      refine wpOp_of rfl rfl ?_
      have f21 : (aq.tmps.getD 35 undef) = .agg #[.int .i64 (max x r), .int .i64 (max y s)] := z6 21 35 (hall { on := 21, ground := Ground.data } (by simp) rfl) rfl
      have hK := fun (W2 : World) hW hT hv (hs : SbxB R0 R1 A4 A5 x y r s W2) => show (JbxB R0 R1 A4 A5 x y r s w0 a0) (lq.setIfInBounds 23 true) aq W2 from ⟨hJ2.world 23 rfl (W' := W2) hW hT hv, hs⟩
      clear ho hall hl hQ
      generalize (JbxB R0 R1 A4 A5 x y r s w0 a0) (lq.setIfInBounds 23 true) = K at hK ⊢
      clear hJ2 hS z1 z2 z3 z4 z6 z7
      have nb : Blk ((W.setCell ⟨R1, 0, none⟩ (.int .i64 (max x r))).setCell ⟨R1, 1, none⟩ (.int .i64 (max y s))) R1 [.int .i64 (max x r), .int .i64 (max y s)] := (xd.setI 0 (by simp) _).setI 1 (by simp) _
      have ns : SbxB R0 R1 A4 A5 x y r s ((W.setCell ⟨R1, 0, none⟩ (.int .i64 (max x r))).setCell ⟨R1, 1, none⟩ (.int .i64 (max y s))) := ⟨(xa.setO (p := ⟨R1, 0, none⟩) (by show _ ≠ R1; omega) _).setO (p := ⟨R1, 1, none⟩) (by show _ ≠ R1; omega) _, (xb.setO (p := ⟨R1, 0, none⟩) (by show _ ≠ R1; omega) _).setO (p := ⟨R1, 1, none⟩) (by show _ ≠ R1; omega) _, ⟨pa, qa, ipa, iqa, (xc.setO (p := ⟨R1, 0, none⟩) (by show _ ≠ R1; omega) _).setO (p := ⟨R1, 1, none⟩) (by show _ ≠ R1; omega) _⟩, _, _, hx.max hr, hy.max hs', nb⟩
      have nB : Below R0 w0 ((W.setCell ⟨R1, 0, none⟩ (.int .i64 (max x r))).setCell ⟨R1, 1, none⟩ (.int .i64 (max y s))) := (z5.setCell (p := ⟨R1, 0, none⟩) (Nat.le_of_lt n01) _).setCell (p := ⟨R1, 1, none⟩) (Nat.le_of_lt n01) _
      clear xa xb xc xd nb
      go_simp
      exact hK _ nB (fun _ _ h => VbxB.same h) trivial ns
    | iq + 24, ho => simp at ho
  · intro lq aq W ⟨hJ, hs⟩ hr
    obtain ⟨z1, z2, z3, z4, z5, z6, z7⟩ := hJ
    exact hQ aq W z2 z3 (fun e he => z4 e (by simpa using he))  z5 hs
def VdwR (_R0 _R1 _A4 _A5 : Nat) (x y r s : Int) (_Bs : Nat) (rv : Value) (_c : Nat) (_Lz : List Int) (_B : Nat) : Nat → Value → World → Prop
  | 0, v, _ => v = rv
  | 1, v, _ => v = .agg #[.int .i64 x, .int .i64 y]
  | 2, v, _ => v = .agg #[.int .i64 r, .int .i64 s]
  | 3, v, _ => v = rv
  | _, _, _ => True
theorem VdwR.mono {R0 R1 A4 A5 : Nat} {x y r s : Int} {Bs : Nat} {rv : Value} {c : Nat} {Lz : List Int} {B j : Nat} {v : Value} {W W2 : World} (_hB : Below W.heap.size W W2) (h : VdwR R0 R1 A4 A5 x y r s Bs rv c Lz B j v W) : VdwR R0 R1 A4 A5 x y r s Bs rv c Lz B j v W2 := by
  unfold VdwR at *
  split <;> simp only at h <;> first | exact h | trivial
theorem VdwR.same {R0 R1 A4 A5 : Nat} {x y r s : Int} {Bs : Nat} {rv : Value} {c : Nat} {Lz : List Int} {B j : Nat} {v : Value} {W W2 : World} (h : VdwR R0 R1 A4 A5 x y r s Bs rv c Lz B j v W) : VdwR R0 R1 A4 A5 x y r s Bs rv c Lz B j v W2 := by
  unfold VdwR at *
  split <;> simp only at h <;> first | exact h | trivial
def VwnL (A off n cap jx : Nat) (lv : Value) (a b c d p q u w : Int) (t : Bool) (_B : Nat) : Nat → Value → World → Prop
  | 0, v, _ => v = lv
  | 1, v, _ => v = .int .i64 (jx : Nat)
  | 2, v, _ => v = .bool t
  | 3, v, _ => v = .slice (some ⟨A, off, none⟩) n cap
  | 4, v, _ => v = .int .i64 (jx : Nat)
  | 5, v, _ => v = .pointer (some ⟨A, off + jx * 4, none⟩)
  | 6, v, _ => v = .agg #[.int .i64 a, .int .i64 b, .int .i64 c, .int .i64 d]
  | 7, v, _ => v = .agg #[.int .i64 p, .int .i64 q]
  | 8, v, _ => v = .agg #[.int .i64 u, .int .i64 w]
  | 9, v, _ => v = .bool t
  | 10, v, _ => v = .bool false
  | _, _, _ => True
theorem VwnL.mono {A off n cap jx : Nat} {lv : Value} {a b c d p q u w : Int} {t : Bool} {B j : Nat} {v : Value} {W W2 : World} (_hB : Below W.heap.size W W2) (h : VwnL A off n cap jx lv a b c d p q u w t B j v W) : VwnL A off n cap jx lv a b c d p q u w t B j v W2 := by
  unfold VwnL at *
  split <;> simp only at h <;> first | exact h | trivial
end Go.Proofs.Ytpnnpkchogooaaa

/- The drawn regions of the program's walk to the nearest segment. -/
namespace Go.Proofs.Ytpnnpkchogooaaa
open Go.RowKit
def VnkR (_B4 _gs gl gb _A8 _gp _gr : Nat) (_p _q k y0 y1 y2 y3 y4 y5 y6 y7 : Int) (_B : Nat) : Nat → Value → World → Prop
  | 0, v, _ => v = .int .i64 k
  | 1, v, _ => v = .agg #[.int .u64 y0, .int .u64 y1, .int .u64 y2, .int .u64 y3, .int .u64 y4, .int .u64 y5, .int .u64 y6, .int .u64 y7]
  | 2, _, W => Blk W gb [.int .i64 k]
  | 3, _, W => Blk W gl [.int .u64 y0, .int .u64 y1, .int .u64 y2, .int .u64 y3, .int .u64 y4, .int .u64 y5, .int .u64 y6, .int .u64 y7]
  | _, _, _ => True
theorem VnkR.mono {B4 gs gl gb A8 gp gr : Nat} {p q k y0 y1 y2 y3 y4 y5 y6 y7 : Int} {B j : Nat} {v : Value} {W W2 : World} (hB : Below W.heap.size W W2) (h : VnkR B4 gs gl gb A8 gp gr p q k y0 y1 y2 y3 y4 y5 y6 y7 B j v W) : VnkR B4 gs gl gb A8 gp gr p q k y0 y1 y2 y3 y4 y5 y6 y7 B j v W2 := by
  unfold VnkR at *
  split <;> simp only at h <;> first | exact h | exact h.step hB | trivial
theorem VnkR.put {B4 gs gl gb A8 gp gr : Nat} {p q k y0 y1 y2 y3 y4 y5 y6 y7 : Int} {B j : Nat} {v : Value} {W W2 : World} (h0 : Blk W gb [.int .i64 k] → Blk W2 gb [.int .i64 k]) (h1 : Blk W gl [.int .u64 y0, .int .u64 y1, .int .u64 y2, .int .u64 y3, .int .u64 y4, .int .u64 y5, .int .u64 y6, .int .u64 y7] → Blk W2 gl [.int .u64 y0, .int .u64 y1, .int .u64 y2, .int .u64 y3, .int .u64 y4, .int .u64 y5, .int .u64 y6, .int .u64 y7]) (h : VnkR B4 gs gl gb A8 gp gr p q k y0 y1 y2 y3 y4 y5 y6 y7 B j v W) : VnkR B4 gs gl gb A8 gp gr p q k y0 y1 y2 y3 y4 y5 y6 y7 B j v W2 := by
  unfold VnkR at *
  split <;> simp only at h <;> first | exact h | exact h0 h | exact h1 h | trivial
def VnkS (_B4 _gl _gb A7 : Nat) (k y0 y1 y2 y3 y4 y5 y6 y7 : Int) (_B : Nat) : Nat → Value → World → Prop
  | 0, v, _ => v = .int .i64 k
  | 1, v, _ => v = .agg #[.int .u64 y0, .int .u64 y1, .int .u64 y2, .int .u64 y3, .int .u64 y4, .int .u64 y5, .int .u64 y6, .int .u64 y7]
  | 2, v, _ => v = .int .i64 k
  | 3, _, W => Blk W A7 [.int .u64 y0, .int .u64 y1, .int .u64 y2, .int .u64 y3, .int .u64 y4, .int .u64 y5, .int .u64 y6, .int .u64 y7]
  | _, _, _ => True
theorem VnkS.mono {B4 gl gb A7 : Nat} {k y0 y1 y2 y3 y4 y5 y6 y7 : Int} {B j : Nat} {v : Value} {W W2 : World} (hB : Below W.heap.size W W2) (h : VnkS B4 gl gb A7 k y0 y1 y2 y3 y4 y5 y6 y7 B j v W) : VnkS B4 gl gb A7 k y0 y1 y2 y3 y4 y5 y6 y7 B j v W2 := by
  unfold VnkS at *
  split <;> simp only at h <;> first | exact h | exact h.step hB | trivial
theorem VnkS.put {B4 gl gb A7 : Nat} {k y0 y1 y2 y3 y4 y5 y6 y7 : Int} {B j : Nat} {v : Value} {W W2 : World} (h1 : Blk W A7 [.int .u64 y0, .int .u64 y1, .int .u64 y2, .int .u64 y3, .int .u64 y4, .int .u64 y5, .int .u64 y6, .int .u64 y7] → Blk W2 A7 [.int .u64 y0, .int .u64 y1, .int .u64 y2, .int .u64 y3, .int .u64 y4, .int .u64 y5, .int .u64 y6, .int .u64 y7]) (h : VnkS B4 gl gb A7 k y0 y1 y2 y3 y4 y5 y6 y7 B j v W) : VnkS B4 gl gb A7 k y0 y1 y2 y3 y4 y5 y6 y7 B j v W2 := by
  unfold VnkS at *
  split <;> simp only at h <;> first | exact h | exact h1 h | trivial
def VnkE (_B4 A5 _A8 : Nat) (k y0 y1 y2 y3 y4 y5 y6 y7 : Int) (_B : Nat) : Nat → Value → World → Prop
  | 0, v, _ => v = .int .i64 k
  | 1, v, _ => v = .agg #[.int .u64 y0, .int .u64 y1, .int .u64 y2, .int .u64 y3, .int .u64 y4, .int .u64 y5, .int .u64 y6, .int .u64 y7]
  | 2, v, _ => v = .int .i64 k
  | 3, _, W => Blk W A5 [.int .u64 y0, .int .u64 y1, .int .u64 y2, .int .u64 y3, .int .u64 y4, .int .u64 y5, .int .u64 y6, .int .u64 y7]
  | 4, v, _ => v = .bool true
  | _, _, _ => True
theorem VnkE.mono {B4 A5 A8 : Nat} {k y0 y1 y2 y3 y4 y5 y6 y7 : Int} {B j : Nat} {v : Value} {W W2 : World} (hB : Below W.heap.size W W2) (h : VnkE B4 A5 A8 k y0 y1 y2 y3 y4 y5 y6 y7 B j v W) : VnkE B4 A5 A8 k y0 y1 y2 y3 y4 y5 y6 y7 B j v W2 := by
  unfold VnkE at *
  split <;> simp only at h <;> first | exact h | exact h.step hB | trivial
theorem VnkE.put {B4 A5 A8 : Nat} {k y0 y1 y2 y3 y4 y5 y6 y7 : Int} {B j : Nat} {v : Value} {W W2 : World} (h1 : Blk W A5 [.int .u64 y0, .int .u64 y1, .int .u64 y2, .int .u64 y3, .int .u64 y4, .int .u64 y5, .int .u64 y6, .int .u64 y7] → Blk W2 A5 [.int .u64 y0, .int .u64 y1, .int .u64 y2, .int .u64 y3, .int .u64 y4, .int .u64 y5, .int .u64 y6, .int .u64 y7]) (h : VnkE B4 A5 A8 k y0 y1 y2 y3 y4 y5 y6 y7 B j v W) : VnkE B4 A5 A8 k y0 y1 y2 y3 y4 y5 y6 y7 B j v W2 := by
  unfold VnkE at *
  split <;> simp only at h <;> first | exact h | exact h1 h | trivial
end Go.Proofs.Ytpnnpkchogooaaa
