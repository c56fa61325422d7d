/- Part 4 of the walks that the proof leans on. -/
import Derived.Test.YtpnnpkchogooaaaPart3
/- A segment and a box drawn from a code, and the law: drawn regions. -/
namespace Go.Proofs.Ytpnnpkchogooaaa
open Go.RowKit
def VbxM (_R0 _R1 _R2 _A6 _A7 _A8 : Nat) (a b c d x y r s : Int) (_B : Nat) : Nat → Value → World → Prop
  | 0, v, _ => v = .agg #[.int .i64 a, .int .i64 b, .int .i64 c, .int .i64 d]
  | 1, v, _ => v = .agg #[.int .i64 x, .int .i64 y]
  | 2, v, _ => v = .agg #[.int .i64 r, .int .i64 s]
  | _, _, _ => True
theorem VbxM.mono {R0 R1 R2 A6 A7 A8 : Nat} {a b c d x y r s : Int} {B j : Nat} {v : Value} {W W2 : World} (_hB : Below W.heap.size W W2) (h : VbxM R0 R1 R2 A6 A7 A8 a b c d x y r s B j v W) : VbxM R0 R1 R2 A6 A7 A8 a b c d x y r s B j v W2 := by
  unfold VbxM at *
  split <;> simp only at h <;> first | exact h | trivial
theorem VbxM.same {R0 R1 R2 A6 A7 A8 : Nat} {a b c d x y r s : Int} {B j : Nat} {v : Value} {W W2 : World} (h : VbxM R0 R1 R2 A6 A7 A8 a b c d x y r s B j v W) : VbxM R0 R1 R2 A6 A7 A8 a b c d x y r s B j v W2 := by
  unfold VbxM at *
  split <;> simp only at h <;> first | exact h | trivial
def SbxM (R0 R1 R2 A6 A7 A8 : Nat) (a b c d x y r s : Int) (W : World) : Prop := Blk W A6 [.int .i64 a, .int .i64 b, .int .i64 c, .int .i64 d] ∧ Blk W A7 [.int .i64 x, .int .i64 y] ∧ Blk W A8 [.int .i64 r, .int .i64 s] ∧ (∃ e0 e1 e2 e3 : Int, I64 e0 ∧ I64 e1 ∧ I64 e2 ∧ I64 e3 ∧ Blk W R0 [.int .i64 e0, .int .i64 e1, .int .i64 e2, .int .i64 e3]) ∧ (∃ p q : Int, Sm p ∧ Sm q ∧ Blk W R1 [.int .i64 p, .int .i64 q]) ∧ ∃ p q : Int, Sm p ∧ Sm q ∧ Blk W R2 [.int .i64 p, .int .i64 q]
def JbxM (R0 R1 R2 A6 A7 A8 : Nat) (a b c d x y r s : Int) (w0 : World) (a0 : Act) (lz : Array Bool) (az : Act) (W : World) : Prop := InvQ (R0) [some 18, some 19, some 20, none, none, none] (VbxM R0 R1 R2 A6 A7 A8 a b c d x y r s (R0)) w0 a0 lz az W ∧ SbxM R0 R1 R2 A6 A7 A8 a b c d x y r s W
set_option maxRecDepth 100000 in
set_option maxHeartbeats 4000000 in
theorem bxM {Q : Exit → Act → World → Prop} {R0 R1 R2 A6 A7 A8 : Nat} {a b c d x y r s : Int}  {w0 : World} {a0 : Act} {idq : Nat} {t0 t1 t2 t3 t4 t5 : TypeId} {q0 q1 q2 q3 q4 q5 : String}
    (n01 : R0 < R1) (n12 : R1 < R2) (n6 : R2 < A6) (n7 : R2 < A7) (n8 : R2 < A8) (ia : I64 a) (ib : I64 b) (ic : I64 c) (id : I64 d) (hx : Sm x) (hy : Sm y) (hr : Sm r) (hs' : Sm s) (h6 : a0.tmps[6]? = some (.pointer (some ⟨A6, 0, none⟩))) (h7 : a0.tmps[7]? = some (.pointer (some ⟨A7, 0, none⟩))) (h8 : a0.tmps[8]? = some (.pointer (some ⟨A8, 0, none⟩))) (h2 : a0.tmps[2]? = some (.pointer (some ⟨R0, 0, none⟩))) (h3 : a0.tmps[3]? = some (.pointer (some ⟨R1, 0, none⟩))) (h4 : a0.tmps[4]? = some (.pointer (some ⟨R2, 0, none⟩)))  (hz : a0.tmps.size = 21) (hs0 : SbxM R0 R1 R2 A6 A7 A8 a b c d x y r s w0.drew)
    (hQ : ∀ aq W, aq.tmps.size = a0.tmps.size → aq.defers = a0.defers → (∀ e, e ∉ ([18, 19, 20] : List Nat) → aq.tmps[e]? = a0.tmps[e]?) → Below (R0) w0 W → SbxM R0 R1 R2 A6 A7 A8 a b c d x y r s W → Q .normal aq W) :
    (Code.region idq #[{ dst := some 18, op := Op.load 27 (Operand.tmp 6), type := t0, pos := q0, after := #[], guard := none },
    { dst := some 19, op := Op.load 25 (Operand.tmp 7), type := t1, pos := q1, after := #[{ on := 3, ground := Ground.gcOnly Departure.lateStores }], guard := none },
    { dst := some 20, op := Op.load 25 (Operand.tmp 8), type := t2, pos := q2, after := #[{ on := 4, ground := Ground.gcOnly Departure.lateStores }], guard := none },
    { dst := none, op := Op.store 27 (Operand.tmp 2) (Operand.tmp 18), type := t3, pos := q3, after := #[{ on := 0, ground := Ground.data }, { on := 0, ground := Ground.phase }, { on := 1, ground := Ground.textOnly Departure.lateStores }, { on := 2, ground := Ground.textOnly Departure.lateStores }], guard := none },
    { dst := none, op := Op.store 25 (Operand.tmp 3) (Operand.tmp 19), type := t4, pos := q4, after := #[{ on := 1, ground := Ground.data }, { on := 3, ground := Ground.chain }, { on := 0, ground := Ground.phase }, { on := 1, ground := Ground.phase }, { on := 2, ground := Ground.textOnly Departure.lateStores }, { on := 3, ground := Ground.phase }], guard := none },
    { dst := none, op := Op.store 25 (Operand.tmp 4) (Operand.tmp 20), type := t5, pos := q5, after := #[{ on := 2, ground := Ground.data }, { on := 4, ground := Ground.chain }, { on := 0, ground := Ground.phase }, { on := 1, ground := Ground.phase }, { on := 2, ground := Ground.phase }, { on := 3, ground := Ground.phase }, { on := 4, ground := Ground.phase }], guard := none }] true).wp Try.prog Q a0 w0 := by
  have hS : distS [some 18, some 19, some 20, none, none, none] = true := rfl
  refine wp_region_inv (by kernel_rfl) (JbxM R0 R1 R2 A6 A7 A8 a b c d x y r s w0 a0) ⟨⟨rfl, rfl, rfl, fun _ _ => rfl, (Below.refl _ w0).drew, fun j d hj => ?_, fun j hj => ?_⟩, hs0⟩ ?_ ?_
  · exfalso
    rw [Array.getD_eq_getD_getElem?, Array.getElem?_replicate] at hj
    split at hj <;> simp at hj
  · exfalso
    rw [Array.getD_eq_getD_getElem?, Array.getElem?_replicate] at hj
    split at hj <;> simp at hj
  · intro lq aq W iq oq ⟨hJ, hs⟩ hl ho hall
    have hJ2 := hJ
    obtain ⟨z1, z2, z3, z4, z5, z6, z7⟩ := hJ
    obtain ⟨xa, xb, xe, ⟨e0, e1, e2, e3, j0, j1, j2, j3, xc⟩, ⟨pb, qb, ipb, iqb, xd⟩, pc, qc, ipc, iqc, xf⟩ := hs
    have ca0 := xa.c 0 rfl; have ca1 := xa.c 1 rfl; have ca2 := xa.c 2 rfl; have ca3 := xa.c 3 rfl; have cb0 := xb.c 0 rfl; have cb1 := xb.c 1 rfl; have ce0 := xe.c 0 rfl; have ce1 := xe.c 1 rfl
    have rc0 := xc.c 0 rfl; have sc0 := xc.f 0 rfl; have rc1 := xc.c 1 rfl; have sc1 := xc.f 1 rfl; have rc2 := xc.c 2 rfl; have sc2 := xc.f 2 rfl; have rc3 := xc.c 3 rfl; have sc3 := xc.f 3 rfl; have lc := xc.lt
    have rd0 := xd.c 0 rfl; have sd0 := xd.f 0 rfl; have rd1 := xd.c 1 rfl; have sd1 := xd.f 1 rfl; have ld := xd.lt
    have rf0 := xf.c 0 rfl; have sf0 := xf.f 0 rfl; have rf1 := xf.c 1 rfl; have sf1 := xf.f 1 rfl; have lf := xf.lt
    have hs : SbxM R0 R1 R2 A6 A7 A8 a b c d x y r s W := ⟨xa, xb, xe, ⟨e0, e1, e2, e3, j0, j1, j2, j3, xc⟩, ⟨pb, qb, ipb, iqb, xd⟩, pc, qc, ipc, iqc, xf⟩
    have g6 : aq.tmps.getD 6 undef = .pointer (some ⟨A6, 0, none⟩) := by rw [Array.getD_eq_getD_getElem?, z4 6 (by decide), h6]; rfl
    have g7 : aq.tmps.getD 7 undef = .pointer (some ⟨A7, 0, none⟩) := by rw [Array.getD_eq_getD_getElem?, z4 7 (by decide), h7]; rfl
    have g8 : aq.tmps.getD 8 undef = .pointer (some ⟨A8, 0, none⟩) := by rw [Array.getD_eq_getD_getElem?, z4 8 (by decide), h8]; rfl
    have g2 : aq.tmps.getD 2 undef = .pointer (some ⟨R0, 0, none⟩) := by rw [Array.getD_eq_getD_getElem?, z4 2 (by decide), h2]; rfl
    have g3 : aq.tmps.getD 3 undef = .pointer (some ⟨R1, 0, none⟩) := by rw [Array.getD_eq_getD_getElem?, z4 3 (by decide), h3]; rfl
    have g4 : aq.tmps.getD 4 undef = .pointer (some ⟨R2, 0, none⟩) := by rw [Array.getD_eq_getD_getElem?, z4 4 (by decide), h4]; rfl
    match iq, ho with
    | 0, ho =>
      cases ho
      refine wpOp_of rfl rfl ?_
      have hK := fun (v : Value) (W2 : World) hW hT hv (hs : SbxM R0 R1 R2 A6 A7 A8 a b c d x y r s W2) => show (JbxM R0 R1 R2 A6 A7 A8 a b c d x y r s w0 a0) (lq.setIfInBounds 0 true) (aq.put (some 18) v) W2 from ⟨hJ2.put hS 0 18 rfl (by omega) (W' := W2) hW hT v hv, hs⟩
      clear ho hall hl hQ
      generalize (JbxM R0 R1 R2 A6 A7 A8 a b c d x y r s w0 a0) (lq.setIfInBounds 0 true) = K at hK ⊢
      clear hJ2 hS z1 z2 z3 z4 z6 z7
      go_simp
      exact hK _ _ z5 (fun _ _ h => h) rfl hs
    | 1, ho =>
      cases ho
      refine wpOp_of rfl rfl ?_
      have hK := fun (v : Value) (W2 : World) hW hT hv (hs : SbxM R0 R1 R2 A6 A7 A8 a b c d x y r s W2) => show (JbxM R0 R1 R2 A6 A7 A8 a b c d x y r s w0 a0) (lq.setIfInBounds 1 true) (aq.put (some 19) v) W2 from ⟨hJ2.put hS 1 19 rfl (by omega) (W' := W2) hW hT v hv, hs⟩
      clear ho hall hl hQ
      generalize (JbxM R0 R1 R2 A6 A7 A8 a b c d x y r s w0 a0) (lq.setIfInBounds 1 true) = K at hK ⊢
      clear hJ2 hS z1 z2 z3 z4 z6 z7
      go_simp
      exact hK _ _ z5 (fun _ _ h => h) rfl hs
    | 2, ho =>
      cases ho
      refine wpOp_of rfl rfl ?_
      have hK := fun (v : Value) (W2 : World) hW hT hv (hs : SbxM R0 R1 R2 A6 A7 A8 a b c d x y r s W2) => show (JbxM R0 R1 R2 A6 A7 A8 a b c d x y r s w0 a0) (lq.setIfInBounds 2 true) (aq.put (some 20) v) W2 from ⟨hJ2.put hS 2 20 rfl (by omega) (W' := W2) hW hT v hv, hs⟩
      clear ho hall hl hQ
      generalize (JbxM R0 R1 R2 A6 A7 A8 a b c d x y r s w0 a0) (lq.setIfInBounds 2 true) = K at hK ⊢
      clear hJ2 hS z1 z2 z3 z4 z6 z7
      go_simp
      exact hK _ _ z5 (fun _ _ h => h) rfl hs
    | 3, ho =>
      cases ho
      refine wpOp_of rfl rfl ?_
      have f0 : (aq.tmps.getD 18 undef) = .agg #[.int .i64 a, .int .i64 b, .int .i64 c, .int .i64 d] := z6 0 18 (hall { on := 0, ground := Ground.data } (by simp) rfl) rfl
      have hK := fun (W2 : World) hW hT hv (hs : SbxM R0 R1 R2 A6 A7 A8 a b c d x y r s W2) => show (JbxM R0 R1 R2 A6 A7 A8 a b c d x y r s w0 a0) (lq.setIfInBounds 3 true) aq W2 from ⟨hJ2.world 3 rfl (W' := W2) hW hT hv, hs⟩
      clear ho hall hl hQ
      generalize (JbxM R0 R1 R2 A6 A7 A8 a b c d x y r s w0 a0) (lq.setIfInBounds 3 true) = K at hK ⊢
      clear hJ2 hS z1 z2 z3 z4 z6 z7
      have nb : Blk ((((W.setCell ⟨R0, 0, none⟩ (.int .i64 a)).setCell ⟨R0, 1, none⟩ (.int .i64 b)).setCell ⟨R0, 2, none⟩ (.int .i64 c)).setCell ⟨R0, 3, none⟩ (.int .i64 d)) R0 [.int .i64 a, .int .i64 b, .int .i64 c, .int .i64 d] := ((((xc.setI 0 (by simp) _).setI 1 (by simp) _).setI 2 (by simp) _).setI 3 (by simp) _)
      have ns : SbxM R0 R1 R2 A6 A7 A8 a b c d x y r s ((((W.setCell ⟨R0, 0, none⟩ (.int .i64 a)).setCell ⟨R0, 1, none⟩ (.int .i64 b)).setCell ⟨R0, 2, none⟩ (.int .i64 c)).setCell ⟨R0, 3, none⟩ (.int .i64 d)) := ⟨((((xa.setO (p := ⟨R0, 0, none⟩) (by show _ ≠ R0; omega) _).setO (p := ⟨R0, 1, none⟩) (by show _ ≠ R0; omega) _).setO (p := ⟨R0, 2, none⟩) (by show _ ≠ R0; omega) _).setO (p := ⟨R0, 3, none⟩) (by show _ ≠ R0; omega) _), ((((xb.setO (p := ⟨R0, 0, none⟩) (by show _ ≠ R0; omega) _).setO (p := ⟨R0, 1, none⟩) (by show _ ≠ R0; omega) _).setO (p := ⟨R0, 2, none⟩) (by show _ ≠ R0; omega) _).setO (p := ⟨R0, 3, none⟩) (by show _ ≠ R0; omega) _), ((((xe.setO (p := ⟨R0, 0, none⟩) (by show _ ≠ R0; omega) _).setO (p := ⟨R0, 1, none⟩) (by show _ ≠ R0; omega) _).setO (p := ⟨R0, 2, none⟩) (by show _ ≠ R0; omega) _).setO (p := ⟨R0, 3, none⟩) (by show _ ≠ R0; omega) _), ⟨a, b, c, d, ia, ib, ic, id, nb⟩, ⟨pb, qb, ipb, iqb, ((((xd.setO (p := ⟨R0, 0, none⟩) (by show _ ≠ R0; omega) _).setO (p := ⟨R0, 1, none⟩) (by show _ ≠ R0; omega) _).setO (p := ⟨R0, 2, none⟩) (by show _ ≠ R0; omega) _).setO (p := ⟨R0, 3, none⟩) (by show _ ≠ R0; omega) _)⟩, pc, qc, ipc, iqc, ((((xf.setO (p := ⟨R0, 0, none⟩) (by show _ ≠ R0; omega) _).setO (p := ⟨R0, 1, none⟩) (by show _ ≠ R0; omega) _).setO (p := ⟨R0, 2, none⟩) (by show _ ≠ R0; omega) _).setO (p := ⟨R0, 3, none⟩) (by show _ ≠ R0; omega) _)⟩
      have nB : Below R0 w0 ((((W.setCell ⟨R0, 0, none⟩ (.int .i64 a)).setCell ⟨R0, 1, none⟩ (.int .i64 b)).setCell ⟨R0, 2, none⟩ (.int .i64 c)).setCell ⟨R0, 3, none⟩ (.int .i64 d)) := ((((z5.setCell (p := ⟨R0, 0, none⟩) (Nat.le_refl _) _).setCell (p := ⟨R0, 1, none⟩) (Nat.le_refl _) _).setCell (p := ⟨R0, 2, none⟩) (Nat.le_refl _) _).setCell (p := ⟨R0, 3, none⟩) (Nat.le_refl _) _)
      clear xa xb xc xd xe xf nb
      go_simp
      exact hK _ nB (fun _ _ h => VbxM.same h) trivial ns
    | 4, ho =>
      cases ho
      refine wpOp_of rfl rfl ?_
      have f1 : (aq.tmps.getD 19 undef) = .agg #[.int .i64 x, .int .i64 y] := z6 1 19 (hall { on := 1, ground := Ground.data } (by simp) rfl) rfl
      have hK := fun (W2 : World) hW hT hv (hs : SbxM R0 R1 R2 A6 A7 A8 a b c d x y r s W2) => show (JbxM R0 R1 R2 A6 A7 A8 a b c d x y r s w0 a0) (lq.setIfInBounds 4 true) aq W2 from ⟨hJ2.world 4 rfl (W' := W2) hW hT hv, hs⟩
      clear ho hall hl hQ
      generalize (JbxM R0 R1 R2 A6 A7 A8 a b c d x y r s w0 a0) (lq.setIfInBounds 4 true) = K at hK ⊢
      clear hJ2 hS z1 z2 z3 z4 z6 z7
      have nb : Blk ((W.setCell ⟨R1, 0, none⟩ (.int .i64 x)).setCell ⟨R1, 1, none⟩ (.int .i64 y)) R1 [.int .i64 x, .int .i64 y] := ((xd.setI 0 (by simp) _).setI 1 (by simp) _)
      have ns : SbxM R0 R1 R2 A6 A7 A8 a b c d x y r s ((W.setCell ⟨R1, 0, none⟩ (.int .i64 x)).setCell ⟨R1, 1, none⟩ (.int .i64 y)) := ⟨((xa.setO (p := ⟨R1, 0, none⟩) (by show _ ≠ R1; omega) _).setO (p := ⟨R1, 1, none⟩) (by show _ ≠ R1; omega) _), ((xb.setO (p := ⟨R1, 0, none⟩) (by show _ ≠ R1; omega) _).setO (p := ⟨R1, 1, none⟩) (by show _ ≠ R1; omega) _), ((xe.setO (p := ⟨R1, 0, none⟩) (by show _ ≠ R1; omega) _).setO (p := ⟨R1, 1, none⟩) (by show _ ≠ R1; omega) _), ⟨e0, e1, e2, e3, j0, j1, j2, j3, ((xc.setO (p := ⟨R1, 0, none⟩) (by show _ ≠ R1; omega) _).setO (p := ⟨R1, 1, none⟩) (by show _ ≠ R1; omega) _)⟩, ⟨x, y, hx, hy, nb⟩, pc, qc, ipc, iqc, ((xf.setO (p := ⟨R1, 0, none⟩) (by show _ ≠ R1; omega) _).setO (p := ⟨R1, 1, none⟩) (by show _ ≠ R1; omega) _)⟩
      have nB : Below R0 w0 ((W.setCell ⟨R1, 0, none⟩ (.int .i64 x)).setCell ⟨R1, 1, none⟩ (.int .i64 y)) := ((z5.setCell (p := ⟨R1, 0, none⟩) (Nat.le_of_lt n01) _).setCell (p := ⟨R1, 1, none⟩) (Nat.le_of_lt n01) _)
      clear xa xb xc xd xe xf nb
      go_simp
      exact hK _ nB (fun _ _ h => VbxM.same h) trivial ns
    | 5, ho =>
      cases ho
      refine wpOp_of rfl rfl ?_
      have f2 : (aq.tmps.getD 20 undef) = .agg #[.int .i64 r, .int .i64 s] := z6 2 20 (hall { on := 2, ground := Ground.data } (by simp) rfl) rfl
      have hK := fun (W2 : World) hW hT hv (hs : SbxM R0 R1 R2 A6 A7 A8 a b c d x y r s W2) => show (JbxM R0 R1 R2 A6 A7 A8 a b c d x y r s w0 a0) (lq.setIfInBounds 5 true) aq W2 from ⟨hJ2.world 5 rfl (W' := W2) hW hT hv, hs⟩
      clear ho hall hl hQ
      generalize (JbxM R0 R1 R2 A6 A7 A8 a b c d x y r s w0 a0) (lq.setIfInBounds 5 true) = K at hK ⊢
      clear hJ2 hS z1 z2 z3 z4 z6 z7
      have nb : Blk ((W.setCell ⟨R2, 0, none⟩ (.int .i64 r)).setCell ⟨R2, 1, none⟩ (.int .i64 s)) R2 [.int .i64 r, .int .i64 s] := ((xf.setI 0 (by simp) _).setI 1 (by simp) _)
      have ns : SbxM R0 R1 R2 A6 A7 A8 a b c d x y r s ((W.setCell ⟨R2, 0, none⟩ (.int .i64 r)).setCell ⟨R2, 1, none⟩ (.int .i64 s)) := ⟨((xa.setO (p := ⟨R2, 0, none⟩) (by show _ ≠ R2; omega) _).setO (p := ⟨R2, 1, none⟩) (by show _ ≠ R2; omega) _), ((xb.setO (p := ⟨R2, 0, none⟩) (by show _ ≠ R2; omega) _).setO (p := ⟨R2, 1, none⟩) (by show _ ≠ R2; omega) _), ((xe.setO (p := ⟨R2, 0, none⟩) (by show _ ≠ R2; omega) _).setO (p := ⟨R2, 1, none⟩) (by show _ ≠ R2; omega) _), ⟨e0, e1, e2, e3, j0, j1, j2, j3, ((xc.setO (p := ⟨R2, 0, none⟩) (by show _ ≠ R2; omega) _).setO (p := ⟨R2, 1, none⟩) (by show _ ≠ R2; omega) _)⟩, ⟨pb, qb, ipb, iqb, ((xd.setO (p := ⟨R2, 0, none⟩) (by show _ ≠ R2; omega) _).setO (p := ⟨R2, 1, none⟩) (by show _ ≠ R2; omega) _)⟩, r, s, hr, hs', nb⟩
      have nB : Below R0 w0 ((W.setCell ⟨R2, 0, none⟩ (.int .i64 r)).setCell ⟨R2, 1, none⟩ (.int .i64 s)) := ((z5.setCell (p := ⟨R2, 0, none⟩) (show R0 ≤ R2 by omega) _).setCell (p := ⟨R2, 1, none⟩) (show R0 ≤ R2 by omega) _)
      clear xa xb xc xd xe xf nb
      go_simp
      exact hK _ nB (fun _ _ h => VbxM.same h) trivial ns
    | iq + 6, ho => simp at ho
  · intro lq aq W ⟨hJ, hs⟩ hr
    obtain ⟨z1, z2, z3, z4, z5, z6, z7⟩ := hJ
    exact hQ aq W z2 z3 (fun e he => z4 e (by simpa using he))  z5 hs
theorem getD_listedX {l : Array Bool} {i : Nat} (h : l.getD i true = false) : l.getD i false = false := by
  rcases Nat.lt_or_ge i l.size with h' | h'
  · simpa [Array.getD, h'] using h
  · simp [Array.getD, Nat.not_lt.2 h'] at h
def VbxL0 (_B4 AS : Nat) (x y u vv a b c d : Int) (_B : Nat) : Nat → Value → World → Prop
  | 0, v, _ => v = .slice (some ⟨AS, 0, none⟩) 4 4
  | 1, v, _ => v = .int .i64 0
  | 2, v, _ => v = .pointer (some ⟨AS, 0, none⟩)
  | 3, v, _ => v = .agg #[.int .i64 x, .int .i64 y]
  | 4, v, _ => v = .slice (some ⟨AS, 0, none⟩) 4 4
  | 5, v, _ => v = .int .i64 0
  | 6, v, _ => v = .int .i64 1
  | 7, v, _ => v = .int .i64 1
  | 8, v, _ => v = .pointer (some ⟨AS, 2, none⟩)
  | 9, v, _ => v = .agg #[.int .i64 u, .int .i64 vv]
  | 10, v, _ => v = .tuple #[.agg #[.int .i64 a, .int .i64 b, .int .i64 c, .int .i64 d], .bool true]
  | 11, v, _ => v = .tuple #[.agg #[.int .i64 a, .int .i64 b, .int .i64 c, .int .i64 d], .bool true]
  | 12, v, _ => v = .agg #[.int .i64 a, .int .i64 b, .int .i64 c, .int .i64 d]
  | 13, v, _ => v = .bool true
  | 16, v, _ => v = .bool true
  | _, _, _ => True
theorem VbxL0.mono {B4 AS : Nat} {x y u vv a b c d : Int} {B j : Nat} {v : Value} {W W2 : World} (_hB : Below W.heap.size W W2) (h : VbxL0 B4 AS x y u vv a b c d B j v W) : VbxL0 B4 AS x y u vv a b c d B j v W2 := by
  unfold VbxL0 at *
  split <;> simp only at h <;> first | exact h | trivial
theorem VbxL0.same {B4 AS : Nat} {x y u vv a b c d : Int} {B j : Nat} {v : Value} {W W2 : World} (h : VbxL0 B4 AS x y u vv a b c d B j v W) : VbxL0 B4 AS x y u vv a b c d B j v W2 := by
  unfold VbxL0 at *
  split <;> simp only at h <;> first | exact h | trivial
def SbxL0 (B4 _AS : Nat) (_x _y _u _vv a b c d : Int) (lz : Array Bool) (az : Act) (W : World) : Prop := (lz.getD 15 false = true → lz.getD 14 false = true) ∧ (lz.getD 14 false = true → ∃ gz, az.tmps.getD 10 undef = .pointer (some ⟨gz, 0, none⟩) ∧ B4 ≤ gz ∧ (∃ z0q z1q z2q z3q, Blk W gz [z0q, z1q, z2q, z3q]) ∧ (lz.getD 15 false = true → Blk W gz [.int .i64 a, .int .i64 b, .int .i64 c, .int .i64 d]))
theorem SbxL0.quiet {B4 AS : Nat} {x y u vv a b c d : Int} {lz : Array Bool} {az : Act} {W : World} (h : SbxL0 B4 AS x y u vv a b c d lz az W) (i d' : Nat) (v : Value) (hi : i ≠ 14 ∧ i ≠ 15) (hd : d' ≠ 10) : SbxL0 B4 AS x y u vv a b c d (lz.setIfInBounds i true) (az.put (some d') v) W := by
  obtain ⟨h2, h3⟩ := h
  refine ⟨fun hl => ?_, fun hl => ?_⟩
  · rw [getD_set_ne false hi.2] at hl
    rw [getD_set_ne false hi.1]
    exact h2 hl
  · rw [getD_set_ne false hi.1] at hl
    obtain ⟨gz, e1, e2, e3, e4⟩ := h3 hl
    exact ⟨gz, by rw [put_getD_ne hd]; exact e1, e2, e3, fun h => e4 (by rw [getD_set_ne false hi.2] at h; exact h)⟩
theorem SbxL0.step {B4 AS : Nat} {x y u vv a b c d : Int} {lz : Array Bool} {az : Act} {W W2 : World} (h : SbxL0 B4 AS x y u vv a b c d lz az W) (hB : Below W.heap.size W W2) : SbxL0 B4 AS x y u vv a b c d lz az W2 := by
  obtain ⟨h2, h3⟩ := h
  refine ⟨h2, fun hl => ?_⟩
  obtain ⟨gz, e1, e2, ⟨z0q, z1q, z2q, z3q, e3⟩, e4⟩ := h3 hl
  exact ⟨gz, e1, e2, ⟨_, _, _, _, e3.step hB⟩, fun h => (e4 h).step hB⟩
theorem SbxL0.nine {B4 AS : Nat} {x y u vv a b c d : Int} {lz : Array Bool} {az : Act} {W : World} (h : SbxL0 B4 AS x y u vv a b c d lz az W) (hn : lz.getD 14 true = false) {gz : Nat} (hs : 10 < az.tmps.size) (hz : B4 ≤ gz) (hb : Blk W gz [.int .i64 0, .int .i64 0, .int .i64 0, .int .i64 0]) : SbxL0 B4 AS x y u vv a b c d (lz.setIfInBounds 14 true) (az.put (some 10) (.pointer (some ⟨gz, 0, none⟩))) W := by
  obtain ⟨h2, h3⟩ := h
  have hn' : lz.getD 14 false = false := getD_listedX hn
  refine ⟨fun hl => ?_, fun _ => ⟨gz, put_getD_same hs, hz, ⟨_, _, _, _, hb⟩, fun hl => ?_⟩⟩
  · rw [getD_set_ne false (by decide)] at hl
    rw [h2 hl] at hn'
    cases hn'
  · rw [getD_set_ne false (by decide)] at hl
    rw [h2 hl] at hn'
    cases hn'
theorem SbxL0.ten {B4 AS : Nat} {x y u vv a b c d : Int} {lz : Array Bool} {az : Act} {W W2 : World} (_ : SbxL0 B4 AS x y u vv a b c d lz az W) (h9 : lz.getD 14 false = true) {gz : Nat} (e1 : az.tmps.getD 10 undef = .pointer (some ⟨gz, 0, none⟩)) (e2 : B4 ≤ gz) (hb : Blk W2 gz [.int .i64 a, .int .i64 b, .int .i64 c, .int .i64 d]) : SbxL0 B4 AS x y u vv a b c d (lz.setIfInBounds 15 true) az W2 := by
  refine ⟨fun _ => ?_, fun _ => ⟨gz, e1, e2, ⟨_, _, _, _, hb⟩, fun _ => hb⟩⟩
  rw [getD_set_ne false (by decide)]; exact h9

def JbxL0 (B4 AS : Nat) (x y u vv a b c d : Int) (w0 : World) (a0 : Act) (lz : Array Bool) (az : Act) (W : World) : Prop := InvQ (w0.heap.size) [some 108, some 109, some 110, some 111, some 112, some 113, some 114, some 115, some 116, some 117, some 118, some 107, some 119, some 120, some 10, none, some 11] (VbxL0 B4 AS x y u vv a b c d (w0.heap.size)) w0 a0 lz az W ∧ SbxL0 B4 AS x y u vv a b c d lz az W
set_option maxRecDepth 100000 in
set_option maxHeartbeats 4000000 in
theorem bxL0 {Q : Exit → Act → World → Prop} {B4 AS : Nat} {x y u vv a b c d : Int}  {w0 : World} {a0 : Act} {idq : Nat} {t0 t1 t2 t3 t4 t5 t6 t7 t8 t9 t10 t11 t12 t13 t14 t15 t16 : TypeId} {q0 q1 q2 q3 q4 q5 q6 q7 q8 q9 q10 q11 q12 q13 q14 q15 q16 : String}
    (hB4 : B4 = w0.heap.size) (hN : ∀ w, Calls Try.prog 10 #[.agg #[.int .i64 x, .int .i64 y], .agg #[.int .i64 u, .int .i64 vv]] w (VP (.tuple #[.agg #[.int .i64 a, .int .i64 b, .int .i64 c, .int .i64 d], .bool true]) w)) (h8 : a0.tmps[8]? = some (.slice (some ⟨AS, 0, none⟩) 4 4)) (h9 : a0.tmps[9]? = some (.int .i64 0)) (k0 : w0.cell? ⟨AS, 0, none⟩ = some (.int .i64 x)) (l0 : (⟨AS, 0, none⟩ : Addr).block < w0.heap.size) (k1 : w0.cell? ⟨AS, 1, none⟩ = some (.int .i64 y)) (l1 : (⟨AS, 1, none⟩ : Addr).block < w0.heap.size) (k2 : w0.cell? ⟨AS, 2, none⟩ = some (.int .i64 u)) (l2 : (⟨AS, 2, none⟩ : Addr).block < w0.heap.size) (k3 : w0.cell? ⟨AS, 3, none⟩ = some (.int .i64 vv)) (l3 : (⟨AS, 3, none⟩ : Addr).block < w0.heap.size) (hz : a0.tmps.size = 172)
    (hQ : ∀ aq W, aq.tmps.size = a0.tmps.size → aq.defers = a0.defers → (∀ e, e ∉ ([108, 109, 110, 111, 112, 113, 114, 115, 116, 117, 118, 107, 119, 120, 10, 11] : List Nat) → aq.tmps[e]? = a0.tmps[e]?) → VbxL0 B4 AS x y u vv a b c d (w0.heap.size) 15 undef W → VbxL0 B4 AS x y u vv a b c d (w0.heap.size) 16 (aq.tmps.getD 11 undef) W → Below (w0.heap.size) w0 W → (∃ gz, aq.tmps.getD 10 undef = .pointer (some ⟨gz, 0, none⟩) ∧ w0.heap.size ≤ gz ∧ Blk W gz [.int .i64 a, .int .i64 b, .int .i64 c, .int .i64 d]) → Q .normal aq W) :
    (Code.region idq #[{ dst := some 108, op := Op.move (Operand.tmp 8), type := t0, pos := q0, after := #[], guard := none },
    { dst := some 109, op := Op.move (Operand.tmp 9), type := t1, pos := q1, after := #[], guard := none },
    { dst := some 110, op := Op.indexAddr 33 (Operand.tmp 108) (Operand.tmp 109), type := t2, pos := q2, after := #[{ on := 0, ground := Ground.data }, { on := 1, ground := Ground.data }], guard := none },
    { dst := some 111, op := Op.load 25 (Operand.tmp 110), type := t3, pos := q3, after := #[{ on := 2, ground := Ground.data }], guard := none },
    { dst := some 112, op := Op.move (Operand.tmp 8), type := t4, pos := q4, after := #[], guard := none },
    { dst := some 113, op := Op.move (Operand.tmp 9), type := t5, pos := q5, after := #[], guard := none },
    { dst := some 114, op := Op.binOp BinOp.add 3 (Operand.tmp 113) (Operand.const (Value.int IntKind.i64 1)) 3, type := t6, pos := q6, after := #[{ on := 5, ground := Ground.data }], guard := none },
    { dst := some 115, op := Op.binOp BinOp.rem 3 (Operand.tmp 114) (Operand.const (Value.int IntKind.i64 4)) 3, type := t7, pos := q7, after := #[{ on := 6, ground := Ground.data }], guard := none },
    { dst := some 116, op := Op.indexAddr 33 (Operand.tmp 112) (Operand.tmp 115), type := t8, pos := q8, after := #[{ on := 4, ground := Ground.data }, { on := 7, ground := Ground.data }], guard := none },
    { dst := some 117, op := Op.load 25 (Operand.tmp 116), type := t9, pos := q9, after := #[{ on := 8, ground := Ground.data }], guard := none },
    { dst := some 118, op := Op.call { callee := Callee.value (Operand.func 10), args := #[Operand.tmp 111, Operand.tmp 117], argTypes := #[25, 25] }, type := t10, pos := q10, after := #[{ on := 3, ground := Ground.data }, { on := 9, ground := Ground.data }], guard := none },
    { dst := some 107, op := Op.move (Operand.tmp 118), type := t11, pos := q11, after := #[{ on := 10, ground := Ground.data }], guard := none },
    { dst := some 119, op := Op.extract (Operand.tmp 107) 0, type := t12, pos := q12, after := #[{ on := 11, ground := Ground.data }], guard := none },
    { dst := some 120, op := Op.extract (Operand.tmp 107) 1, type := t13, pos := q13, after := #[{ on := 11, ground := Ground.data }, { on := 15, ground := Ground.gcOnly Departure.lateStores }], guard := none },
    { dst := some 10, op := Op.alloc 27, type := t14, pos := q14, after := #[], guard := none },
    { dst := none, op := Op.store 27 (Operand.tmp 10) (Operand.tmp 119), type := t15, pos := q15, after := #[{ on := 14, ground := Ground.data }, { on := 12, ground := Ground.data }, { on := 10, ground := Ground.chain }, { on := 0, ground := Ground.phase }, { on := 1, ground := Ground.phase }, { on := 2, ground := Ground.phase }, { on := 3, ground := Ground.phase }, { on := 4, ground := Ground.phase }, { on := 5, ground := Ground.phase }, { on := 6, ground := Ground.phase }, { on := 7, ground := Ground.phase }, { on := 8, ground := Ground.phase }, { on := 9, ground := Ground.phase }, { on := 10, ground := Ground.phase }, { on := 11, ground := Ground.phase }, { on := 12, ground := Ground.phase }, { on := 13, ground := Ground.textOnly Departure.lateStores }, { on := 14, ground := Ground.phase }], guard := none },
    { dst := some 11, op := Op.assign (Operand.tmp 120), type := t16, pos := q16, after := #[{ on := 13, ground := Ground.data }, { on := 15, ground := Ground.chain }, { on := 0, ground := Ground.phase }, { on := 1, ground := Ground.phase }, { on := 2, ground := Ground.phase }, { on := 3, ground := Ground.phase }, { on := 4, ground := Ground.phase }, { on := 5, ground := Ground.phase }, { on := 6, ground := Ground.phase }, { on := 7, ground := Ground.phase }, { on := 8, ground := Ground.phase }, { on := 9, ground := Ground.phase }, { on := 10, ground := Ground.phase }, { on := 11, ground := Ground.phase }, { on := 12, ground := Ground.phase }, { on := 13, ground := Ground.phase }, { on := 14, ground := Ground.phase }, { on := 15, ground := Ground.phase }], guard := none }] true).wp Try.prog Q a0 w0 := by
  have hS : distS [some 108, some 109, some 110, some 111, some 112, some 113, some 114, some 115, some 116, some 117, some 118, some 107, some 119, some 120, some 10, none, some 11] = true := rfl
  refine wp_region_inv (by kernel_rfl) (JbxL0 B4 AS x y u vv a b c d w0 a0) ⟨⟨rfl, rfl, rfl, fun _ _ => rfl, (Below.refl _ w0).drew, fun j d hj => ?_, fun j hj => ?_⟩, ⟨fun h => by exfalso; rw [Array.getD_eq_getD_getElem?, Array.getElem?_replicate] at h; split at h <;> simp at h, fun h => by exfalso; rw [Array.getD_eq_getD_getElem?, Array.getElem?_replicate] at h; split at h <;> simp at h⟩⟩ ?_ ?_
  · exfalso
    rw [Array.getD_eq_getD_getElem?, Array.getElem?_replicate] at hj
    split at hj <;> simp at hj
  · exfalso
    rw [Array.getD_eq_getD_getElem?, Array.getElem?_replicate] at hj
    split at hj <;> simp at hj
  · intro lq aq W iq oq ⟨hJ, hs⟩ hl ho hall
    have hJ2 := hJ
    obtain ⟨z1, z2, z3, z4, z5, z6, z7⟩ := hJ
    have g8 : aq.tmps.getD 8 undef = .slice (some ⟨AS, 0, none⟩) 4 4 := by rw [Array.getD_eq_getD_getElem?, z4 8 (by decide), h8]; rfl
    have g9 : aq.tmps.getD 9 undef = .int .i64 0 := by rw [Array.getD_eq_getD_getElem?, z4 9 (by decide), h9]; rfl
    have c0 : W.cell? ⟨AS, 0, none⟩ = some (.int .i64 x) := (z5.cell l0).trans k0
    have c1 : W.cell? ⟨AS, 1, none⟩ = some (.int .i64 y) := (z5.cell l1).trans k1
    have c2 : W.cell? ⟨AS, 2, none⟩ = some (.int .i64 u) := (z5.cell l2).trans k2
    have c3 : W.cell? ⟨AS, 3, none⟩ = some (.int .i64 vv) := (z5.cell l3).trans k3
    match iq, ho with
    | 0, ho =>
      cases ho
      refine wpOp_of rfl rfl ?_
      have hK := fun (v : Value) (W2 : World) hW hT hv (hs : SbxL0 B4 AS x y u vv a b c d (lq.setIfInBounds 0 true) (aq.put (some 108) v) W2) => show (JbxL0 B4 AS x y u vv a b c d w0 a0) (lq.setIfInBounds 0 true) (aq.put (some 108) v) W2 from ⟨hJ2.put hS 0 108 rfl (by omega) (W' := W2) hW hT v hv, hs⟩
      clear ho hall hl hQ
      generalize (JbxL0 B4 AS x y u vv a b c d w0 a0) (lq.setIfInBounds 0 true) = K at hK ⊢
      clear hJ2 hS z1 z2 z3 z4 z6 z7
      go_simp
      exact hK _ _ z5 (fun _ _ h => h) rfl (hs.quiet 0 108 _ (by decide) (by decide))
    | 1, ho =>
      cases ho
      refine wpOp_of rfl rfl ?_
      have hK := fun (v : Value) (W2 : World) hW hT hv (hs : SbxL0 B4 AS x y u vv a b c d (lq.setIfInBounds 1 true) (aq.put (some 109) v) W2) => show (JbxL0 B4 AS x y u vv a b c d w0 a0) (lq.setIfInBounds 1 true) (aq.put (some 109) v) W2 from ⟨hJ2.put hS 1 109 rfl (by omega) (W' := W2) hW hT v hv, hs⟩
      clear ho hall hl hQ
      generalize (JbxL0 B4 AS x y u vv a b c d w0 a0) (lq.setIfInBounds 1 true) = K at hK ⊢
      clear hJ2 hS z1 z2 z3 z4 z6 z7
      go_simp
      exact hK _ _ z5 (fun _ _ h => h) rfl (hs.quiet 1 109 _ (by decide) (by decide))
    | 2, ho =>
      cases ho
      refine wpOp_of rfl rfl ?_
      have f0 : (aq.tmps.getD 108 undef) = .slice (some ⟨AS, 0, none⟩) 4 4 := z6 0 108 (hall { on := 0, ground := Ground.data } (by simp) rfl) rfl
      have f1 : (aq.tmps.getD 109 undef) = .int .i64 0 := z6 1 109 (hall { on := 1, ground := Ground.data } (by simp) rfl) rfl
      have hK := fun (v : Value) (W2 : World) hW hT hv (hs : SbxL0 B4 AS x y u vv a b c d (lq.setIfInBounds 2 true) (aq.put (some 110) v) W2) => show (JbxL0 B4 AS x y u vv a b c d w0 a0) (lq.setIfInBounds 2 true) (aq.put (some 110) v) W2 from ⟨hJ2.put hS 2 110 rfl (by omega) (W' := W2) hW hT v hv, hs⟩
      clear ho hall hl hQ
      generalize (JbxL0 B4 AS x y u vv a b c d w0 a0) (lq.setIfInBounds 2 true) = K at hK ⊢
      clear hJ2 hS z1 z2 z3 z4 z6 z7
      go_simp
      exact hK _ _ z5 (fun _ _ h => h) rfl (hs.quiet 2 110 _ (by decide) (by decide))
    | 3, ho =>
      cases ho
      refine wpOp_of rfl rfl ?_
      have f2 : (aq.tmps.getD 110 undef) = .pointer (some ⟨AS, 0, none⟩) := z6 2 110 (hall { on := 2, ground := Ground.data } (by simp) rfl) rfl
      have hK := fun (v : Value) (W2 : World) hW hT hv (hs : SbxL0 B4 AS x y u vv a b c d (lq.setIfInBounds 3 true) (aq.put (some 111) v) W2) => show (JbxL0 B4 AS x y u vv a b c d w0 a0) (lq.setIfInBounds 3 true) (aq.put (some 111) v) W2 from ⟨hJ2.put hS 3 111 rfl (by omega) (W' := W2) hW hT v hv, hs⟩
      clear ho hall hl hQ
      generalize (JbxL0 B4 AS x y u vv a b c d w0 a0) (lq.setIfInBounds 3 true) = K at hK ⊢
      clear hJ2 hS z1 z2 z3 z4 z6 z7
      go_simp
      exact hK _ _ z5 (fun _ _ h => h) rfl (hs.quiet 3 111 _ (by decide) (by decide))
    | 4, ho =>
      cases ho
      refine wpOp_of rfl rfl ?_
      have hK := fun (v : Value) (W2 : World) hW hT hv (hs : SbxL0 B4 AS x y u vv a b c d (lq.setIfInBounds 4 true) (aq.put (some 112) v) W2) => show (JbxL0 B4 AS x y u vv a b c d w0 a0) (lq.setIfInBounds 4 true) (aq.put (some 112) v) W2 from ⟨hJ2.put hS 4 112 rfl (by omega) (W' := W2) hW hT v hv, hs⟩
      clear ho hall hl hQ
      generalize (JbxL0 B4 AS x y u vv a b c d w0 a0) (lq.setIfInBounds 4 true) = K at hK ⊢
      clear hJ2 hS z1 z2 z3 z4 z6 z7
      go_simp
      exact hK _ _ z5 (fun _ _ h => h) rfl (hs.quiet 4 112 _ (by decide) (by decide))
    | 5, ho =>
      cases ho
      refine wpOp_of rfl rfl ?_
      have hK := fun (v : Value) (W2 : World) hW hT hv (hs : SbxL0 B4 AS x y u vv a b c d (lq.setIfInBounds 5 true) (aq.put (some 113) v) W2) => show (JbxL0 B4 AS x y u vv a b c d w0 a0) (lq.setIfInBounds 5 true) (aq.put (some 113) v) W2 from ⟨hJ2.put hS 5 113 rfl (by omega) (W' := W2) hW hT v hv, hs⟩
      clear ho hall hl hQ
      generalize (JbxL0 B4 AS x y u vv a b c d w0 a0) (lq.setIfInBounds 5 true) = K at hK ⊢
      clear hJ2 hS z1 z2 z3 z4 z6 z7
      go_simp
      exact hK _ _ z5 (fun _ _ h => h) rfl (hs.quiet 5 113 _ (by decide) (by decide))
    | 6, ho =>
      cases ho
      refine wpOp_of rfl rfl ?_
      have f5 : (aq.tmps.getD 113 undef) = .int .i64 0 := z6 5 113 (hall { on := 5, ground := Ground.data } (by simp) rfl) rfl
      have hK := fun (v : Value) (W2 : World) hW hT hv (hs : SbxL0 B4 AS x y u vv a b c d (lq.setIfInBounds 6 true) (aq.put (some 114) v) W2) => show (JbxL0 B4 AS x y u vv a b c d w0 a0) (lq.setIfInBounds 6 true) (aq.put (some 114) v) W2 from ⟨hJ2.put hS 6 114 rfl (by omega) (W' := W2) hW hT v hv, hs⟩
      clear ho hall hl hQ
      generalize (JbxL0 B4 AS x y u vv a b c d w0 a0) (lq.setIfInBounds 6 true) = K at hK ⊢
      clear hJ2 hS z1 z2 z3 z4 z6 z7
      go_simp
      exact hK _ _ z5 (fun _ _ h => h) rfl (hs.quiet 6 114 _ (by decide) (by decide))
    | 7, ho =>
      cases ho
      refine wpOp_of rfl rfl ?_
      have f6 : (aq.tmps.getD 114 undef) = .int .i64 1 := z6 6 114 (hall { on := 6, ground := Ground.data } (by simp) rfl) rfl
      have hK := fun (v : Value) (W2 : World) hW hT hv (hs : SbxL0 B4 AS x y u vv a b c d (lq.setIfInBounds 7 true) (aq.put (some 115) v) W2) => show (JbxL0 B4 AS x y u vv a b c d w0 a0) (lq.setIfInBounds 7 true) (aq.put (some 115) v) W2 from ⟨hJ2.put hS 7 115 rfl (by omega) (W' := W2) hW hT v hv, hs⟩
      clear ho hall hl hQ
      generalize (JbxL0 B4 AS x y u vv a b c d w0 a0) (lq.setIfInBounds 7 true) = K at hK ⊢
      clear hJ2 hS z1 z2 z3 z4 z6 z7
      go_simp
      exact hK _ _ z5 (fun _ _ h => h) rfl (hs.quiet 7 115 _ (by decide) (by decide))
    | 8, ho =>
      cases ho
      refine wpOp_of rfl rfl ?_
      have f4 : (aq.tmps.getD 112 undef) = .slice (some ⟨AS, 0, none⟩) 4 4 := z6 4 112 (hall { on := 4, ground := Ground.data } (by simp) rfl) rfl
      have f7 : (aq.tmps.getD 115 undef) = .int .i64 1 := z6 7 115 (hall { on := 7, ground := Ground.data } (by simp) rfl) rfl
      have hK := fun (v : Value) (W2 : World) hW hT hv (hs : SbxL0 B4 AS x y u vv a b c d (lq.setIfInBounds 8 true) (aq.put (some 116) v) W2) => show (JbxL0 B4 AS x y u vv a b c d w0 a0) (lq.setIfInBounds 8 true) (aq.put (some 116) v) W2 from ⟨hJ2.put hS 8 116 rfl (by omega) (W' := W2) hW hT v hv, hs⟩
      clear ho hall hl hQ
      generalize (JbxL0 B4 AS x y u vv a b c d w0 a0) (lq.setIfInBounds 8 true) = K at hK ⊢
      clear hJ2 hS z1 z2 z3 z4 z6 z7
      go_simp
      exact hK _ _ z5 (fun _ _ h => h) rfl (hs.quiet 8 116 _ (by decide) (by decide))
    | 9, ho =>
      cases ho
      refine wpOp_of rfl rfl ?_
      have f8 : (aq.tmps.getD 116 undef) = .pointer (some ⟨AS, 2, none⟩) := z6 8 116 (hall { on := 8, ground := Ground.data } (by simp) rfl) rfl
      have hK := fun (v : Value) (W2 : World) hW hT hv (hs : SbxL0 B4 AS x y u vv a b c d (lq.setIfInBounds 9 true) (aq.put (some 117) v) W2) => show (JbxL0 B4 AS x y u vv a b c d w0 a0) (lq.setIfInBounds 9 true) (aq.put (some 117) v) W2 from ⟨hJ2.put hS 9 117 rfl (by omega) (W' := W2) hW hT v hv, hs⟩
      clear ho hall hl hQ
      generalize (JbxL0 B4 AS x y u vv a b c d w0 a0) (lq.setIfInBounds 9 true) = K at hK ⊢
      clear hJ2 hS z1 z2 z3 z4 z6 z7
      go_simp
      exact hK _ _ z5 (fun _ _ h => h) rfl (hs.quiet 9 117 _ (by decide) (by decide))
    | 10, ho =>
      cases ho
      refine wpOp_of rfl rfl ?_
      have f3 : (aq.tmps.getD 111 undef) = .agg #[.int .i64 x, .int .i64 y] := z6 3 111 (hall { on := 3, ground := Ground.data } (by simp) rfl) rfl
      have f9 : (aq.tmps.getD 117 undef) = .agg #[.int .i64 u, .int .i64 vv] := z6 9 117 (hall { on := 9, ground := Ground.data } (by simp) rfl) rfl
      have hK := fun (v : Value) (W2 : World) hW hT hv (hs : SbxL0 B4 AS x y u vv a b c d (lq.setIfInBounds 10 true) (aq.put (some 118) v) W2) => show (JbxL0 B4 AS x y u vv a b c d w0 a0) (lq.setIfInBounds 10 true) (aq.put (some 118) v) W2 from ⟨hJ2.put hS 10 118 rfl (by omega) (W' := W2) hW hT v hv, hs⟩
      clear ho hall hl hQ
      generalize (JbxL0 B4 AS x y u vv a b c d w0 a0) (lq.setIfInBounds 10 true) = K at hK ⊢
      clear hJ2 hS z1 z2 z3 z4 z6 z7
      go_simp
      refine (hN W).mono ?_
      rintro e v1 ⟨rfl, hBv⟩
      exact hK _ _ (z5.trans (hBv.mono z5.size)) (fun _ _ h => h.mono hBv) rfl ((hs.step hBv).quiet 10 118 _ (by decide) (by decide))
    | 11, ho =>
      cases ho
      refine wpOp_of rfl rfl ?_
      have f10 : (aq.tmps.getD 118 undef) = .tuple #[.agg #[.int .i64 a, .int .i64 b, .int .i64 c, .int .i64 d], .bool true] := z6 10 118 (hall { on := 10, ground := Ground.data } (by simp) rfl) rfl
      have hK := fun (v : Value) (W2 : World) hW hT hv (hs : SbxL0 B4 AS x y u vv a b c d (lq.setIfInBounds 11 true) (aq.put (some 107) v) W2) => show (JbxL0 B4 AS x y u vv a b c d w0 a0) (lq.setIfInBounds 11 true) (aq.put (some 107) v) W2 from ⟨hJ2.put hS 11 107 rfl (by omega) (W' := W2) hW hT v hv, hs⟩
      clear ho hall hl hQ
      generalize (JbxL0 B4 AS x y u vv a b c d w0 a0) (lq.setIfInBounds 11 true) = K at hK ⊢
      clear hJ2 hS z1 z2 z3 z4 z6 z7
      go_simp
      exact hK _ _ z5 (fun _ _ h => h) rfl (hs.quiet 11 107 _ (by decide) (by decide))
    | 12, ho =>
      cases ho
      refine wpOp_of rfl rfl ?_
      have f11 : (aq.tmps.getD 107 undef) = .tuple #[.agg #[.int .i64 a, .int .i64 b, .int .i64 c, .int .i64 d], .bool true] := z6 11 107 (hall { on := 11, ground := Ground.data } (by simp) rfl) rfl
      have hK := fun (v : Value) (W2 : World) hW hT hv (hs : SbxL0 B4 AS x y u vv a b c d (lq.setIfInBounds 12 true) (aq.put (some 119) v) W2) => show (JbxL0 B4 AS x y u vv a b c d w0 a0) (lq.setIfInBounds 12 true) (aq.put (some 119) v) W2 from ⟨hJ2.put hS 12 119 rfl (by omega) (W' := W2) hW hT v hv, hs⟩
      clear ho hall hl hQ
      generalize (JbxL0 B4 AS x y u vv a b c d w0 a0) (lq.setIfInBounds 12 true) = K at hK ⊢
      clear hJ2 hS z1 z2 z3 z4 z6 z7
      go_simp
      exact hK _ _ z5 (fun _ _ h => h) rfl (hs.quiet 12 119 _ (by decide) (by decide))
    | 13, ho =>
      cases ho
      refine wpOp_of rfl rfl ?_
      have f11 : (aq.tmps.getD 107 undef) = .tuple #[.agg #[.int .i64 a, .int .i64 b, .int .i64 c, .int .i64 d], .bool true] := z6 11 107 (hall { on := 11, ground := Ground.data } (by simp) rfl) rfl
      have hK := fun (v : Value) (W2 : World) hW hT hv (hs : SbxL0 B4 AS x y u vv a b c d (lq.setIfInBounds 13 true) (aq.put (some 120) v) W2) => show (JbxL0 B4 AS x y u vv a b c d w0 a0) (lq.setIfInBounds 13 true) (aq.put (some 120) v) W2 from ⟨hJ2.put hS 13 120 rfl (by omega) (W' := W2) hW hT v hv, hs⟩
      clear ho hall hl hQ
      generalize (JbxL0 B4 AS x y u vv a b c d w0 a0) (lq.setIfInBounds 13 true) = K at hK ⊢
      clear hJ2 hS z1 z2 z3 z4 z6 z7
      go_simp
      exact hK _ _ z5 (fun _ _ h => h) rfl (hs.quiet 13 120 _ (by decide) (by decide))
    | 14, ho =>
      cases ho
      refine wpOp_of rfl rfl ?_
      have hl9 := hl
      have hsz : 10 < aq.tmps.size := by omega
      have hK := fun (v : Value) (W2 : World) hW hT hv (hs : SbxL0 B4 AS x y u vv a b c d (lq.setIfInBounds 14 true) (aq.put (some 10) v) W2) => show (JbxL0 B4 AS x y u vv a b c d w0 a0) (lq.setIfInBounds 14 true) (aq.put (some 10) v) W2 from ⟨hJ2.put hS 14 10 rfl (by omega) (W' := W2) hW hT v hv, hs⟩
      clear ho hall hl hQ
      generalize (JbxL0 B4 AS x y u vv a b c d w0 a0) (lq.setIfInBounds 14 true) = K at hK ⊢
      clear hJ2 hS z1 z2 z3 z4 z6 z7
      go_simp
      exact hK _ _ (z5.alloc z5.size _) (fun _ _ h => h.mono ((Below.refl _ _).alloc (Nat.le_refl _) _)) trivial ((hs.step ((Below.refl _ _).alloc (Nat.le_refl _) _)).nine hl9 hsz (by have := z5.size; omega) (Blk.new W [.int .i64 0, .int .i64 0, .int .i64 0, .int .i64 0] _ rfl))
    | 15, ho =>
      cases ho
      refine wpOp_of rfl rfl ?_
      have f14 : True := z6 14 10 (hall { on := 14, ground := Ground.data } (by simp) rfl) rfl
      have f12 : (aq.tmps.getD 119 undef) = .agg #[.int .i64 a, .int .i64 b, .int .i64 c, .int .i64 d] := z6 12 119 (hall { on := 12, ground := Ground.data } (by simp) rfl) rfl
      have l9 : lq.getD 14 false = true := hall { on := 14, ground := Ground.data } (by simp) rfl
      have hK := fun (W2 : World) hW hT hv (hs : SbxL0 B4 AS x y u vv a b c d (lq.setIfInBounds 15 true) aq W2) => show (JbxL0 B4 AS x y u vv a b c d w0 a0) (lq.setIfInBounds 15 true) aq W2 from ⟨hJ2.world 15 rfl (W' := W2) hW hT hv, hs⟩
      clear ho hall hl hQ
      generalize (JbxL0 B4 AS x y u vv a b c d w0 a0) (lq.setIfInBounds 15 true) = K at hK ⊢
      clear hJ2 hS z1 z2 z3 z4 z6 z7
      obtain ⟨gz, e7, hgz, ⟨z0q, z1q, z2q, z3q, GZ⟩, _⟩ := hs.2 l9
      have gl := GZ.lt
      have c0z := GZ.c 0 rfl; have d0z := GZ.f 0 rfl; have c1z := GZ.c 1 rfl; have d1z := GZ.f 1 rfl; have c2z := GZ.c 2 rfl; have d2z := GZ.f 2 rfl; have c3z := GZ.c 3 rfl; have d3z := GZ.f 3 rfl
      have NB : Blk ((((W.setCell ⟨gz, 0, none⟩ (.int .i64 a)).setCell ⟨gz, 1, none⟩ (.int .i64 b)).setCell ⟨gz, 2, none⟩ (.int .i64 c)).setCell ⟨gz, 3, none⟩ (.int .i64 d)) gz [.int .i64 a, .int .i64 b, .int .i64 c, .int .i64 d] := ((((GZ.setI 0 (by simp) _).setI 1 (by simp) _).setI 2 (by simp) _).setI 3 (by simp) _)
      have hgw : w0.heap.size ≤ gz := by omega
      have NL : Below w0.heap.size w0 ((((W.setCell ⟨gz, 0, none⟩ (.int .i64 a)).setCell ⟨gz, 1, none⟩ (.int .i64 b)).setCell ⟨gz, 2, none⟩ (.int .i64 c)).setCell ⟨gz, 3, none⟩ (.int .i64 d)) := ((((z5.setCell (p := ⟨gz, 0, none⟩) hgw _).setCell (p := ⟨gz, 1, none⟩) hgw _).setCell (p := ⟨gz, 2, none⟩) hgw _).setCell (p := ⟨gz, 3, none⟩) hgw _)
      have HS := hs.ten l9 e7 hgz NB
      clear GZ NB hs
      go_simp
      exact hK _ NL (fun j v h => VbxL0.same h) trivial HS
    | 16, ho =>
      cases ho
      refine wpOp_of rfl rfl ?_
      have f13 : (aq.tmps.getD 120 undef) = .bool true := z6 13 120 (hall { on := 13, ground := Ground.data } (by simp) rfl) rfl
      have hK := fun (v : Value) (W2 : World) hW hT hv (hs : SbxL0 B4 AS x y u vv a b c d (lq.setIfInBounds 16 true) (aq.put (some 11) v) W2) => show (JbxL0 B4 AS x y u vv a b c d w0 a0) (lq.setIfInBounds 16 true) (aq.put (some 11) v) W2 from ⟨hJ2.put hS 16 11 rfl (by omega) (W' := W2) hW hT v hv, hs⟩
      clear ho hall hl hQ
      generalize (JbxL0 B4 AS x y u vv a b c d w0 a0) (lq.setIfInBounds 16 true) = K at hK ⊢
      clear hJ2 hS z1 z2 z3 z4 z6 z7
      go_simp
      exact hK _ _ z5 (fun _ _ h => h) rfl (hs.quiet 16 11 _ (by decide) (by decide))
    | iq + 17, ho => simp at ho
  · intro lq aq W ⟨hJ, hs⟩ hr
    obtain ⟨z1, z2, z3, z4, z5, z6, z7⟩ := hJ
    have hl := listed_of hr [14, 0, 1, 2, 3, 4, 5, 6, 7, 8, 9, 10, 11, 12, 15, 13, 16] [] (by simp) (by kernel_rfl) (by rw [z1]; decide)
    exact hQ aq W z2 z3 (fun e he => z4 e (by simpa using he)) (z7 15 (hl 15 (by simp)) rfl) (z6 16 11 (hl 16 (by simp)) rfl) z5 (by obtain ⟨gz, e1, e2, _, e4⟩ := hs.2 (hl 14 (by simp)); exact ⟨gz, e1, by omega, e4 (hl 15 (by simp))⟩)
def VbxL1 (_B4 AS : Nat) (x y u vv a b c d : Int) (_B : Nat) : Nat → Value → World → Prop
  | 0, v, _ => v = .slice (some ⟨AS, 0, none⟩) 4 4
  | 1, v, _ => v = .int .i64 1
  | 2, v, _ => v = .pointer (some ⟨AS, 2, none⟩)
  | 3, v, _ => v = .agg #[.int .i64 x, .int .i64 y]
  | 4, v, _ => v = .slice (some ⟨AS, 0, none⟩) 4 4
  | 5, v, _ => v = .int .i64 1
  | 6, v, _ => v = .int .i64 2
  | 7, v, _ => v = .int .i64 2
  | 8, v, _ => v = .pointer (some ⟨AS, 4, none⟩)
  | 9, v, _ => v = .agg #[.int .i64 u, .int .i64 vv]
  | 10, v, _ => v = .tuple #[.agg #[.int .i64 a, .int .i64 b, .int .i64 c, .int .i64 d], .bool true]
  | 11, v, _ => v = .tuple #[.agg #[.int .i64 a, .int .i64 b, .int .i64 c, .int .i64 d], .bool true]
  | 12, v, _ => v = .agg #[.int .i64 a, .int .i64 b, .int .i64 c, .int .i64 d]
  | 13, v, _ => v = .bool true
  | 16, v, _ => v = .bool true
  | _, _, _ => True
theorem VbxL1.mono {B4 AS : Nat} {x y u vv a b c d : Int} {B j : Nat} {v : Value} {W W2 : World} (_hB : Below W.heap.size W W2) (h : VbxL1 B4 AS x y u vv a b c d B j v W) : VbxL1 B4 AS x y u vv a b c d B j v W2 := by
  unfold VbxL1 at *
  split <;> simp only at h <;> first | exact h | trivial
theorem VbxL1.same {B4 AS : Nat} {x y u vv a b c d : Int} {B j : Nat} {v : Value} {W W2 : World} (h : VbxL1 B4 AS x y u vv a b c d B j v W) : VbxL1 B4 AS x y u vv a b c d B j v W2 := by
  unfold VbxL1 at *
  split <;> simp only at h <;> first | exact h | trivial
def SbxL1 (B4 _AS : Nat) (_x _y _u _vv a b c d : Int) (lz : Array Bool) (az : Act) (W : World) : Prop := (lz.getD 15 false = true → lz.getD 14 false = true) ∧ (lz.getD 14 false = true → ∃ gz, az.tmps.getD 10 undef = .pointer (some ⟨gz, 0, none⟩) ∧ B4 ≤ gz ∧ (∃ z0q z1q z2q z3q, Blk W gz [z0q, z1q, z2q, z3q]) ∧ (lz.getD 15 false = true → Blk W gz [.int .i64 a, .int .i64 b, .int .i64 c, .int .i64 d]))
theorem SbxL1.quiet {B4 AS : Nat} {x y u vv a b c d : Int} {lz : Array Bool} {az : Act} {W : World} (h : SbxL1 B4 AS x y u vv a b c d lz az W) (i d' : Nat) (v : Value) (hi : i ≠ 14 ∧ i ≠ 15) (hd : d' ≠ 10) : SbxL1 B4 AS x y u vv a b c d (lz.setIfInBounds i true) (az.put (some d') v) W := by
  obtain ⟨h2, h3⟩ := h
  refine ⟨fun hl => ?_, fun hl => ?_⟩
  · rw [getD_set_ne false hi.2] at hl
    rw [getD_set_ne false hi.1]
    exact h2 hl
  · rw [getD_set_ne false hi.1] at hl
    obtain ⟨gz, e1, e2, e3, e4⟩ := h3 hl
    exact ⟨gz, by rw [put_getD_ne hd]; exact e1, e2, e3, fun h => e4 (by rw [getD_set_ne false hi.2] at h; exact h)⟩
theorem SbxL1.step {B4 AS : Nat} {x y u vv a b c d : Int} {lz : Array Bool} {az : Act} {W W2 : World} (h : SbxL1 B4 AS x y u vv a b c d lz az W) (hB : Below W.heap.size W W2) : SbxL1 B4 AS x y u vv a b c d lz az W2 := by
  obtain ⟨h2, h3⟩ := h
  refine ⟨h2, fun hl => ?_⟩
  obtain ⟨gz, e1, e2, ⟨z0q, z1q, z2q, z3q, e3⟩, e4⟩ := h3 hl
  exact ⟨gz, e1, e2, ⟨_, _, _, _, e3.step hB⟩, fun h => (e4 h).step hB⟩
theorem SbxL1.nine {B4 AS : Nat} {x y u vv a b c d : Int} {lz : Array Bool} {az : Act} {W : World} (h : SbxL1 B4 AS x y u vv a b c d lz az W) (hn : lz.getD 14 true = false) {gz : Nat} (hs : 10 < az.tmps.size) (hz : B4 ≤ gz) (hb : Blk W gz [.int .i64 0, .int .i64 0, .int .i64 0, .int .i64 0]) : SbxL1 B4 AS x y u vv a b c d (lz.setIfInBounds 14 true) (az.put (some 10) (.pointer (some ⟨gz, 0, none⟩))) W := by
  obtain ⟨h2, h3⟩ := h
  have hn' : lz.getD 14 false = false := getD_listedX hn
  refine ⟨fun hl => ?_, fun _ => ⟨gz, put_getD_same hs, hz, ⟨_, _, _, _, hb⟩, fun hl => ?_⟩⟩
  · rw [getD_set_ne false (by decide)] at hl
    rw [h2 hl] at hn'
    cases hn'
  · rw [getD_set_ne false (by decide)] at hl
    rw [h2 hl] at hn'
    cases hn'
theorem SbxL1.ten {B4 AS : Nat} {x y u vv a b c d : Int} {lz : Array Bool} {az : Act} {W W2 : World} (_ : SbxL1 B4 AS x y u vv a b c d lz az W) (h9 : lz.getD 14 false = true) {gz : Nat} (e1 : az.tmps.getD 10 undef = .pointer (some ⟨gz, 0, none⟩)) (e2 : B4 ≤ gz) (hb : Blk W2 gz [.int .i64 a, .int .i64 b, .int .i64 c, .int .i64 d]) : SbxL1 B4 AS x y u vv a b c d (lz.setIfInBounds 15 true) az W2 := by
  refine ⟨fun _ => ?_, fun _ => ⟨gz, e1, e2, ⟨_, _, _, _, hb⟩, fun _ => hb⟩⟩
  rw [getD_set_ne false (by decide)]; exact h9

def JbxL1 (B4 AS : Nat) (x y u vv a b c d : Int) (w0 : World) (a0 : Act) (lz : Array Bool) (az : Act) (W : World) : Prop := InvQ (w0.heap.size) [some 108, some 109, some 110, some 111, some 112, some 113, some 114, some 115, some 116, some 117, some 118, some 107, some 119, some 120, some 10, none, some 11] (VbxL1 B4 AS x y u vv a b c d (w0.heap.size)) w0 a0 lz az W ∧ SbxL1 B4 AS x y u vv a b c d lz az W
set_option maxRecDepth 100000 in
set_option maxHeartbeats 4000000 in
theorem bxL1 {Q : Exit → Act → World → Prop} {B4 AS : Nat} {x y u vv a b c d : Int}  {w0 : World} {a0 : Act} {idq : Nat} {t0 t1 t2 t3 t4 t5 t6 t7 t8 t9 t10 t11 t12 t13 t14 t15 t16 : TypeId} {q0 q1 q2 q3 q4 q5 q6 q7 q8 q9 q10 q11 q12 q13 q14 q15 q16 : String}
    (hB4 : B4 = w0.heap.size) (hN : ∀ w, Calls Try.prog 10 #[.agg #[.int .i64 x, .int .i64 y], .agg #[.int .i64 u, .int .i64 vv]] w (VP (.tuple #[.agg #[.int .i64 a, .int .i64 b, .int .i64 c, .int .i64 d], .bool true]) w)) (h8 : a0.tmps[8]? = some (.slice (some ⟨AS, 0, none⟩) 4 4)) (h9 : a0.tmps[9]? = some (.int .i64 1)) (k0 : w0.cell? ⟨AS, 2, none⟩ = some (.int .i64 x)) (l0 : (⟨AS, 2, none⟩ : Addr).block < w0.heap.size) (k1 : w0.cell? ⟨AS, 3, none⟩ = some (.int .i64 y)) (l1 : (⟨AS, 3, none⟩ : Addr).block < w0.heap.size) (k2 : w0.cell? ⟨AS, 4, none⟩ = some (.int .i64 u)) (l2 : (⟨AS, 4, none⟩ : Addr).block < w0.heap.size) (k3 : w0.cell? ⟨AS, 5, none⟩ = some (.int .i64 vv)) (l3 : (⟨AS, 5, none⟩ : Addr).block < w0.heap.size) (hz : a0.tmps.size = 172)
    (hQ : ∀ aq W, aq.tmps.size = a0.tmps.size → aq.defers = a0.defers → (∀ e, e ∉ ([108, 109, 110, 111, 112, 113, 114, 115, 116, 117, 118, 107, 119, 120, 10, 11] : List Nat) → aq.tmps[e]? = a0.tmps[e]?) → VbxL1 B4 AS x y u vv a b c d (w0.heap.size) 15 undef W → VbxL1 B4 AS x y u vv a b c d (w0.heap.size) 16 (aq.tmps.getD 11 undef) W → Below (w0.heap.size) w0 W → (∃ gz, aq.tmps.getD 10 undef = .pointer (some ⟨gz, 0, none⟩) ∧ w0.heap.size ≤ gz ∧ Blk W gz [.int .i64 a, .int .i64 b, .int .i64 c, .int .i64 d]) → Q .normal aq W) :
    (Code.region idq #[{ dst := some 108, op := Op.move (Operand.tmp 8), type := t0, pos := q0, after := #[], guard := none },
    { dst := some 109, op := Op.move (Operand.tmp 9), type := t1, pos := q1, after := #[], guard := none },
    { dst := some 110, op := Op.indexAddr 33 (Operand.tmp 108) (Operand.tmp 109), type := t2, pos := q2, after := #[{ on := 0, ground := Ground.data }, { on := 1, ground := Ground.data }], guard := none },
    { dst := some 111, op := Op.load 25 (Operand.tmp 110), type := t3, pos := q3, after := #[{ on := 2, ground := Ground.data }], guard := none },
    { dst := some 112, op := Op.move (Operand.tmp 8), type := t4, pos := q4, after := #[], guard := none },
    { dst := some 113, op := Op.move (Operand.tmp 9), type := t5, pos := q5, after := #[], guard := none },
    { dst := some 114, op := Op.binOp BinOp.add 3 (Operand.tmp 113) (Operand.const (Value.int IntKind.i64 1)) 3, type := t6, pos := q6, after := #[{ on := 5, ground := Ground.data }], guard := none },
    { dst := some 115, op := Op.binOp BinOp.rem 3 (Operand.tmp 114) (Operand.const (Value.int IntKind.i64 4)) 3, type := t7, pos := q7, after := #[{ on := 6, ground := Ground.data }], guard := none },
    { dst := some 116, op := Op.indexAddr 33 (Operand.tmp 112) (Operand.tmp 115), type := t8, pos := q8, after := #[{ on := 4, ground := Ground.data }, { on := 7, ground := Ground.data }], guard := none },
    { dst := some 117, op := Op.load 25 (Operand.tmp 116), type := t9, pos := q9, after := #[{ on := 8, ground := Ground.data }], guard := none },
    { dst := some 118, op := Op.call { callee := Callee.value (Operand.func 10), args := #[Operand.tmp 111, Operand.tmp 117], argTypes := #[25, 25] }, type := t10, pos := q10, after := #[{ on := 3, ground := Ground.data }, { on := 9, ground := Ground.data }], guard := none },
    { dst := some 107, op := Op.move (Operand.tmp 118), type := t11, pos := q11, after := #[{ on := 10, ground := Ground.data }], guard := none },
    { dst := some 119, op := Op.extract (Operand.tmp 107) 0, type := t12, pos := q12, after := #[{ on := 11, ground := Ground.data }], guard := none },
    { dst := some 120, op := Op.extract (Operand.tmp 107) 1, type := t13, pos := q13, after := #[{ on := 11, ground := Ground.data }, { on := 15, ground := Ground.gcOnly Departure.lateStores }], guard := none },
    { dst := some 10, op := Op.alloc 27, type := t14, pos := q14, after := #[], guard := none },
    { dst := none, op := Op.store 27 (Operand.tmp 10) (Operand.tmp 119), type := t15, pos := q15, after := #[{ on := 14, ground := Ground.data }, { on := 12, ground := Ground.data }, { on := 10, ground := Ground.chain }, { on := 0, ground := Ground.phase }, { on := 1, ground := Ground.phase }, { on := 2, ground := Ground.phase }, { on := 3, ground := Ground.phase }, { on := 4, ground := Ground.phase }, { on := 5, ground := Ground.phase }, { on := 6, ground := Ground.phase }, { on := 7, ground := Ground.phase }, { on := 8, ground := Ground.phase }, { on := 9, ground := Ground.phase }, { on := 10, ground := Ground.phase }, { on := 11, ground := Ground.phase }, { on := 12, ground := Ground.phase }, { on := 13, ground := Ground.textOnly Departure.lateStores }, { on := 14, ground := Ground.phase }], guard := none },
    { dst := some 11, op := Op.assign (Operand.tmp 120), type := t16, pos := q16, after := #[{ on := 13, ground := Ground.data }, { on := 15, ground := Ground.chain }, { on := 0, ground := Ground.phase }, { on := 1, ground := Ground.phase }, { on := 2, ground := Ground.phase }, { on := 3, ground := Ground.phase }, { on := 4, ground := Ground.phase }, { on := 5, ground := Ground.phase }, { on := 6, ground := Ground.phase }, { on := 7, ground := Ground.phase }, { on := 8, ground := Ground.phase }, { on := 9, ground := Ground.phase }, { on := 10, ground := Ground.phase }, { on := 11, ground := Ground.phase }, { on := 12, ground := Ground.phase }, { on := 13, ground := Ground.phase }, { on := 14, ground := Ground.phase }, { on := 15, ground := Ground.phase }], guard := none }] true).wp Try.prog Q a0 w0 := by
  have hS : distS [some 108, some 109, some 110, some 111, some 112, some 113, some 114, some 115, some 116, some 117, some 118, some 107, some 119, some 120, some 10, none, some 11] = true := rfl
  refine wp_region_inv (by kernel_rfl) (JbxL1 B4 AS x y u vv a b c d w0 a0) ⟨⟨rfl, rfl, rfl, fun _ _ => rfl, (Below.refl _ w0).drew, fun j d hj => ?_, fun j hj => ?_⟩, ⟨fun h => by exfalso; rw [Array.getD_eq_getD_getElem?, Array.getElem?_replicate] at h; split at h <;> simp at h, fun h => by exfalso; rw [Array.getD_eq_getD_getElem?, Array.getElem?_replicate] at h; split at h <;> simp at h⟩⟩ ?_ ?_
  · exfalso
    rw [Array.getD_eq_getD_getElem?, Array.getElem?_replicate] at hj
    split at hj <;> simp at hj
  · exfalso
    rw [Array.getD_eq_getD_getElem?, Array.getElem?_replicate] at hj
    split at hj <;> simp at hj
  · intro lq aq W iq oq ⟨hJ, hs⟩ hl ho hall
    have hJ2 := hJ
    obtain ⟨z1, z2, z3, z4, z5, z6, z7⟩ := hJ
    have g8 : aq.tmps.getD 8 undef = .slice (some ⟨AS, 0, none⟩) 4 4 := by rw [Array.getD_eq_getD_getElem?, z4 8 (by decide), h8]; rfl
    have g9 : aq.tmps.getD 9 undef = .int .i64 1 := by rw [Array.getD_eq_getD_getElem?, z4 9 (by decide), h9]; rfl
    have c0 : W.cell? ⟨AS, 2, none⟩ = some (.int .i64 x) := (z5.cell l0).trans k0
    have c1 : W.cell? ⟨AS, 3, none⟩ = some (.int .i64 y) := (z5.cell l1).trans k1
    have c2 : W.cell? ⟨AS, 4, none⟩ = some (.int .i64 u) := (z5.cell l2).trans k2
    have c3 : W.cell? ⟨AS, 5, none⟩ = some (.int .i64 vv) := (z5.cell l3).trans k3
    match iq, ho with
    | 0, ho =>
      cases ho
      refine wpOp_of rfl rfl ?_
      have hK := fun (v : Value) (W2 : World) hW hT hv (hs : SbxL1 B4 AS x y u vv a b c d (lq.setIfInBounds 0 true) (aq.put (some 108) v) W2) => show (JbxL1 B4 AS x y u vv a b c d w0 a0) (lq.setIfInBounds 0 true) (aq.put (some 108) v) W2 from ⟨hJ2.put hS 0 108 rfl (by omega) (W' := W2) hW hT v hv, hs⟩
      clear ho hall hl hQ
      generalize (JbxL1 B4 AS x y u vv a b c d w0 a0) (lq.setIfInBounds 0 true) = K at hK ⊢
      clear hJ2 hS z1 z2 z3 z4 z6 z7
      go_simp
      exact hK _ _ z5 (fun _ _ h => h) rfl (hs.quiet 0 108 _ (by decide) (by decide))
    | 1, ho =>
      cases ho
      refine wpOp_of rfl rfl ?_
      have hK := fun (v : Value) (W2 : World) hW hT hv (hs : SbxL1 B4 AS x y u vv a b c d (lq.setIfInBounds 1 true) (aq.put (some 109) v) W2) => show (JbxL1 B4 AS x y u vv a b c d w0 a0) (lq.setIfInBounds 1 true) (aq.put (some 109) v) W2 from ⟨hJ2.put hS 1 109 rfl (by omega) (W' := W2) hW hT v hv, hs⟩
      clear ho hall hl hQ
      generalize (JbxL1 B4 AS x y u vv a b c d w0 a0) (lq.setIfInBounds 1 true) = K at hK ⊢
      clear hJ2 hS z1 z2 z3 z4 z6 z7
      go_simp
      exact hK _ _ z5 (fun _ _ h => h) rfl (hs.quiet 1 109 _ (by decide) (by decide))
    | 2, ho =>
      cases ho
      refine wpOp_of rfl rfl ?_
      have f0 : (aq.tmps.getD 108 undef) = .slice (some ⟨AS, 0, none⟩) 4 4 := z6 0 108 (hall { on := 0, ground := Ground.data } (by simp) rfl) rfl
      have f1 : (aq.tmps.getD 109 undef) = .int .i64 1 := z6 1 109 (hall { on := 1, ground := Ground.data } (by simp) rfl) rfl
      have hK := fun (v : Value) (W2 : World) hW hT hv (hs : SbxL1 B4 AS x y u vv a b c d (lq.setIfInBounds 2 true) (aq.put (some 110) v) W2) => show (JbxL1 B4 AS x y u vv a b c d w0 a0) (lq.setIfInBounds 2 true) (aq.put (some 110) v) W2 from ⟨hJ2.put hS 2 110 rfl (by omega) (W' := W2) hW hT v hv, hs⟩
      clear ho hall hl hQ
      generalize (JbxL1 B4 AS x y u vv a b c d w0 a0) (lq.setIfInBounds 2 true) = K at hK ⊢
      clear hJ2 hS z1 z2 z3 z4 z6 z7
      go_simp
      exact hK _ _ z5 (fun _ _ h => h) rfl (hs.quiet 2 110 _ (by decide) (by decide))
    | 3, ho =>
      cases ho
      refine wpOp_of rfl rfl ?_
      have f2 : (aq.tmps.getD 110 undef) = .pointer (some ⟨AS, 2, none⟩) := z6 2 110 (hall { on := 2, ground := Ground.data } (by simp) rfl) rfl
      have hK := fun (v : Value) (W2 : World) hW hT hv (hs : SbxL1 B4 AS x y u vv a b c d (lq.setIfInBounds 3 true) (aq.put (some 111) v) W2) => show (JbxL1 B4 AS x y u vv a b c d w0 a0) (lq.setIfInBounds 3 true) (aq.put (some 111) v) W2 from ⟨hJ2.put hS 3 111 rfl (by omega) (W' := W2) hW hT v hv, hs⟩
      clear ho hall hl hQ
      generalize (JbxL1 B4 AS x y u vv a b c d w0 a0) (lq.setIfInBounds 3 true) = K at hK ⊢
      clear hJ2 hS z1 z2 z3 z4 z6 z7
      go_simp
      exact hK _ _ z5 (fun _ _ h => h) rfl (hs.quiet 3 111 _ (by decide) (by decide))
    | 4, ho =>
      cases ho
      refine wpOp_of rfl rfl ?_
      have hK := fun (v : Value) (W2 : World) hW hT hv (hs : SbxL1 B4 AS x y u vv a b c d (lq.setIfInBounds 4 true) (aq.put (some 112) v) W2) => show (JbxL1 B4 AS x y u vv a b c d w0 a0) (lq.setIfInBounds 4 true) (aq.put (some 112) v) W2 from ⟨hJ2.put hS 4 112 rfl (by omega) (W' := W2) hW hT v hv, hs⟩
      clear ho hall hl hQ
      generalize (JbxL1 B4 AS x y u vv a b c d w0 a0) (lq.setIfInBounds 4 true) = K at hK ⊢
      clear hJ2 hS z1 z2 z3 z4 z6 z7
      go_simp
      exact hK _ _ z5 (fun _ _ h => h) rfl (hs.quiet 4 112 _ (by decide) (by decide))
    | 5, ho =>
      cases ho
      refine wpOp_of rfl rfl ?_
      have hK := fun (v : Value) (W2 : World) hW hT hv (hs : SbxL1 B4 AS x y u vv a b c d (lq.setIfInBounds 5 true) (aq.put (some 113) v) W2) => show (JbxL1 B4 AS x y u vv a b c d w0 a0) (lq.setIfInBounds 5 true) (aq.put (some 113) v) W2 from ⟨hJ2.put hS 5 113 rfl (by omega) (W' := W2) hW hT v hv, hs⟩
      clear ho hall hl hQ
      generalize (JbxL1 B4 AS x y u vv a b c d w0 a0) (lq.setIfInBounds 5 true) = K at hK ⊢
      clear hJ2 hS z1 z2 z3 z4 z6 z7
      go_simp
      exact hK _ _ z5 (fun _ _ h => h) rfl (hs.quiet 5 113 _ (by decide) (by decide))
    | 6, ho =>
      cases ho
      refine wpOp_of rfl rfl ?_
      have f5 : (aq.tmps.getD 113 undef) = .int .i64 1 := z6 5 113 (hall { on := 5, ground := Ground.data } (by simp) rfl) rfl
      have hK := fun (v : Value) (W2 : World) hW hT hv (hs : SbxL1 B4 AS x y u vv a b c d (lq.setIfInBounds 6 true) (aq.put (some 114) v) W2) => show (JbxL1 B4 AS x y u vv a b c d w0 a0) (lq.setIfInBounds 6 true) (aq.put (some 114) v) W2 from ⟨hJ2.put hS 6 114 rfl (by omega) (W' := W2) hW hT v hv, hs⟩
      clear ho hall hl hQ
      generalize (JbxL1 B4 AS x y u vv a b c d w0 a0) (lq.setIfInBounds 6 true) = K at hK ⊢
      clear hJ2 hS z1 z2 z3 z4 z6 z7
      go_simp
      exact hK _ _ z5 (fun _ _ h => h) rfl (hs.quiet 6 114 _ (by decide) (by decide))
    | 7, ho =>
      cases ho
      refine wpOp_of rfl rfl ?_
      have f6 : (aq.tmps.getD 114 undef) = .int .i64 2 := z6 6 114 (hall { on := 6, ground := Ground.data } (by simp) rfl) rfl
      have hK := fun (v : Value) (W2 : World) hW hT hv (hs : SbxL1 B4 AS x y u vv a b c d (lq.setIfInBounds 7 true) (aq.put (some 115) v) W2) => show (JbxL1 B4 AS x y u vv a b c d w0 a0) (lq.setIfInBounds 7 true) (aq.put (some 115) v) W2 from ⟨hJ2.put hS 7 115 rfl (by omega) (W' := W2) hW hT v hv, hs⟩
      clear ho hall hl hQ
      generalize (JbxL1 B4 AS x y u vv a b c d w0 a0) (lq.setIfInBounds 7 true) = K at hK ⊢
      clear hJ2 hS z1 z2 z3 z4 z6 z7
      go_simp
      exact hK _ _ z5 (fun _ _ h => h) rfl (hs.quiet 7 115 _ (by decide) (by decide))
    | 8, ho =>
      cases ho
      refine wpOp_of rfl rfl ?_
      have f4 : (aq.tmps.getD 112 undef) = .slice (some ⟨AS, 0, none⟩) 4 4 := z6 4 112 (hall { on := 4, ground := Ground.data } (by simp) rfl) rfl
      have f7 : (aq.tmps.getD 115 undef) = .int .i64 2 := z6 7 115 (hall { on := 7, ground := Ground.data } (by simp) rfl) rfl
      have hK := fun (v : Value) (W2 : World) hW hT hv (hs : SbxL1 B4 AS x y u vv a b c d (lq.setIfInBounds 8 true) (aq.put (some 116) v) W2) => show (JbxL1 B4 AS x y u vv a b c d w0 a0) (lq.setIfInBounds 8 true) (aq.put (some 116) v) W2 from ⟨hJ2.put hS 8 116 rfl (by omega) (W' := W2) hW hT v hv, hs⟩
      clear ho hall hl hQ
      generalize (JbxL1 B4 AS x y u vv a b c d w0 a0) (lq.setIfInBounds 8 true) = K at hK ⊢
      clear hJ2 hS z1 z2 z3 z4 z6 z7
      go_simp
      exact hK _ _ z5 (fun _ _ h => h) rfl (hs.quiet 8 116 _ (by decide) (by decide))
    | 9, ho =>
      cases ho
      refine wpOp_of rfl rfl ?_
      have f8 : (aq.tmps.getD 116 undef) = .pointer (some ⟨AS, 4, none⟩) := z6 8 116 (hall { on := 8, ground := Ground.data } (by simp) rfl) rfl
      have hK := fun (v : Value) (W2 : World) hW hT hv (hs : SbxL1 B4 AS x y u vv a b c d (lq.setIfInBounds 9 true) (aq.put (some 117) v) W2) => show (JbxL1 B4 AS x y u vv a b c d w0 a0) (lq.setIfInBounds 9 true) (aq.put (some 117) v) W2 from ⟨hJ2.put hS 9 117 rfl (by omega) (W' := W2) hW hT v hv, hs⟩
      clear ho hall hl hQ
      generalize (JbxL1 B4 AS x y u vv a b c d w0 a0) (lq.setIfInBounds 9 true) = K at hK ⊢
      clear hJ2 hS z1 z2 z3 z4 z6 z7
      go_simp
      exact hK _ _ z5 (fun _ _ h => h) rfl (hs.quiet 9 117 _ (by decide) (by decide))
    | 10, ho =>
      cases ho
      refine wpOp_of rfl rfl ?_
      have f3 : (aq.tmps.getD 111 undef) = .agg #[.int .i64 x, .int .i64 y] := z6 3 111 (hall { on := 3, ground := Ground.data } (by simp) rfl) rfl
      have f9 : (aq.tmps.getD 117 undef) = .agg #[.int .i64 u, .int .i64 vv] := z6 9 117 (hall { on := 9, ground := Ground.data } (by simp) rfl) rfl
      have hK := fun (v : Value) (W2 : World) hW hT hv (hs : SbxL1 B4 AS x y u vv a b c d (lq.setIfInBounds 10 true) (aq.put (some 118) v) W2) => show (JbxL1 B4 AS x y u vv a b c d w0 a0) (lq.setIfInBounds 10 true) (aq.put (some 118) v) W2 from ⟨hJ2.put hS 10 118 rfl (by omega) (W' := W2) hW hT v hv, hs⟩
      clear ho hall hl hQ
      generalize (JbxL1 B4 AS x y u vv a b c d w0 a0) (lq.setIfInBounds 10 true) = K at hK ⊢
      clear hJ2 hS z1 z2 z3 z4 z6 z7
      go_simp
      refine (hN W).mono ?_
      rintro e v1 ⟨rfl, hBv⟩
      exact hK _ _ (z5.trans (hBv.mono z5.size)) (fun _ _ h => h.mono hBv) rfl ((hs.step hBv).quiet 10 118 _ (by decide) (by decide))
    | 11, ho =>
      cases ho
      refine wpOp_of rfl rfl ?_
      have f10 : (aq.tmps.getD 118 undef) = .tuple #[.agg #[.int .i64 a, .int .i64 b, .int .i64 c, .int .i64 d], .bool true] := z6 10 118 (hall { on := 10, ground := Ground.data } (by simp) rfl) rfl
      have hK := fun (v : Value) (W2 : World) hW hT hv (hs : SbxL1 B4 AS x y u vv a b c d (lq.setIfInBounds 11 true) (aq.put (some 107) v) W2) => show (JbxL1 B4 AS x y u vv a b c d w0 a0) (lq.setIfInBounds 11 true) (aq.put (some 107) v) W2 from ⟨hJ2.put hS 11 107 rfl (by omega) (W' := W2) hW hT v hv, hs⟩
      clear ho hall hl hQ
      generalize (JbxL1 B4 AS x y u vv a b c d w0 a0) (lq.setIfInBounds 11 true) = K at hK ⊢
      clear hJ2 hS z1 z2 z3 z4 z6 z7
      go_simp
      exact hK _ _ z5 (fun _ _ h => h) rfl (hs.quiet 11 107 _ (by decide) (by decide))
    | 12, ho =>
      cases ho
      refine wpOp_of rfl rfl ?_
      have f11 : (aq.tmps.getD 107 undef) = .tuple #[.agg #[.int .i64 a, .int .i64 b, .int .i64 c, .int .i64 d], .bool true] := z6 11 107 (hall { on := 11, ground := Ground.data } (by simp) rfl) rfl
      have hK := fun (v : Value) (W2 : World) hW hT hv (hs : SbxL1 B4 AS x y u vv a b c d (lq.setIfInBounds 12 true) (aq.put (some 119) v) W2) => show (JbxL1 B4 AS x y u vv a b c d w0 a0) (lq.setIfInBounds 12 true) (aq.put (some 119) v) W2 from ⟨hJ2.put hS 12 119 rfl (by omega) (W' := W2) hW hT v hv, hs⟩
      clear ho hall hl hQ
      generalize (JbxL1 B4 AS x y u vv a b c d w0 a0) (lq.setIfInBounds 12 true) = K at hK ⊢
      clear hJ2 hS z1 z2 z3 z4 z6 z7
      go_simp
      exact hK _ _ z5 (fun _ _ h => h) rfl (hs.quiet 12 119 _ (by decide) (by decide))
    | 13, ho =>
      cases ho
      refine wpOp_of rfl rfl ?_
      have f11 : (aq.tmps.getD 107 undef) = .tuple #[.agg #[.int .i64 a, .int .i64 b, .int .i64 c, .int .i64 d], .bool true] := z6 11 107 (hall { on := 11, ground := Ground.data } (by simp) rfl) rfl
      have hK := fun (v : Value) (W2 : World) hW hT hv (hs : SbxL1 B4 AS x y u vv a b c d (lq.setIfInBounds 13 true) (aq.put (some 120) v) W2) => show (JbxL1 B4 AS x y u vv a b c d w0 a0) (lq.setIfInBounds 13 true) (aq.put (some 120) v) W2 from ⟨hJ2.put hS 13 120 rfl (by omega) (W' := W2) hW hT v hv, hs⟩
      clear ho hall hl hQ
      generalize (JbxL1 B4 AS x y u vv a b c d w0 a0) (lq.setIfInBounds 13 true) = K at hK ⊢
      clear hJ2 hS z1 z2 z3 z4 z6 z7
      go_simp
      exact hK _ _ z5 (fun _ _ h => h) rfl (hs.quiet 13 120 _ (by decide) (by decide))
    | 14, ho =>
      cases ho
      refine wpOp_of rfl rfl ?_
      have hl9 := hl
      have hsz : 10 < aq.tmps.size := by omega
      have hK := fun (v : Value) (W2 : World) hW hT hv (hs : SbxL1 B4 AS x y u vv a b c d (lq.setIfInBounds 14 true) (aq.put (some 10) v) W2) => show (JbxL1 B4 AS x y u vv a b c d w0 a0) (lq.setIfInBounds 14 true) (aq.put (some 10) v) W2 from ⟨hJ2.put hS 14 10 rfl (by omega) (W' := W2) hW hT v hv, hs⟩
      clear ho hall hl hQ
      generalize (JbxL1 B4 AS x y u vv a b c d w0 a0) (lq.setIfInBounds 14 true) = K at hK ⊢
      clear hJ2 hS z1 z2 z3 z4 z6 z7
      go_simp
      exact hK _ _ (z5.alloc z5.size _) (fun _ _ h => h.mono ((Below.refl _ _).alloc (Nat.le_refl _) _)) trivial ((hs.step ((Below.refl _ _).alloc (Nat.le_refl _) _)).nine hl9 hsz (by have := z5.size; omega) (Blk.new W [.int .i64 0, .int .i64 0, .int .i64 0, .int .i64 0] _ rfl))
    | 15, ho =>
      cases ho
      refine wpOp_of rfl rfl ?_
      have f14 : True := z6 14 10 (hall { on := 14, ground := Ground.data } (by simp) rfl) rfl
      have f12 : (aq.tmps.getD 119 undef) = .agg #[.int .i64 a, .int .i64 b, .int .i64 c, .int .i64 d] := z6 12 119 (hall { on := 12, ground := Ground.data } (by simp) rfl) rfl
      have l9 : lq.getD 14 false = true := hall { on := 14, ground := Ground.data } (by simp) rfl
      have hK := fun (W2 : World) hW hT hv (hs : SbxL1 B4 AS x y u vv a b c d (lq.setIfInBounds 15 true) aq W2) => show (JbxL1 B4 AS x y u vv a b c d w0 a0) (lq.setIfInBounds 15 true) aq W2 from ⟨hJ2.world 15 rfl (W' := W2) hW hT hv, hs⟩
      clear ho hall hl hQ
      generalize (JbxL1 B4 AS x y u vv a b c d w0 a0) (lq.setIfInBounds 15 true) = K at hK ⊢
      clear hJ2 hS z1 z2 z3 z4 z6 z7
      obtain ⟨gz, e7, hgz, ⟨z0q, z1q, z2q, z3q, GZ⟩, _⟩ := hs.2 l9
      have gl := GZ.lt
      have c0z := GZ.c 0 rfl; have d0z := GZ.f 0 rfl; have c1z := GZ.c 1 rfl; have d1z := GZ.f 1 rfl; have c2z := GZ.c 2 rfl; have d2z := GZ.f 2 rfl; have c3z := GZ.c 3 rfl; have d3z := GZ.f 3 rfl
      have NB : Blk ((((W.setCell ⟨gz, 0, none⟩ (.int .i64 a)).setCell ⟨gz, 1, none⟩ (.int .i64 b)).setCell ⟨gz, 2, none⟩ (.int .i64 c)).setCell ⟨gz, 3, none⟩ (.int .i64 d)) gz [.int .i64 a, .int .i64 b, .int .i64 c, .int .i64 d] := ((((GZ.setI 0 (by simp) _).setI 1 (by simp) _).setI 2 (by simp) _).setI 3 (by simp) _)
      have hgw : w0.heap.size ≤ gz := by omega
      have NL : Below w0.heap.size w0 ((((W.setCell ⟨gz, 0, none⟩ (.int .i64 a)).setCell ⟨gz, 1, none⟩ (.int .i64 b)).setCell ⟨gz, 2, none⟩ (.int .i64 c)).setCell ⟨gz, 3, none⟩ (.int .i64 d)) := ((((z5.setCell (p := ⟨gz, 0, none⟩) hgw _).setCell (p := ⟨gz, 1, none⟩) hgw _).setCell (p := ⟨gz, 2, none⟩) hgw _).setCell (p := ⟨gz, 3, none⟩) hgw _)
      have HS := hs.ten l9 e7 hgz NB
      clear GZ NB hs
      go_simp
      exact hK _ NL (fun j v h => VbxL1.same h) trivial HS
    | 16, ho =>
      cases ho
      refine wpOp_of rfl rfl ?_
      have f13 : (aq.tmps.getD 120 undef) = .bool true := z6 13 120 (hall { on := 13, ground := Ground.data } (by simp) rfl) rfl
      have hK := fun (v : Value) (W2 : World) hW hT hv (hs : SbxL1 B4 AS x y u vv a b c d (lq.setIfInBounds 16 true) (aq.put (some 11) v) W2) => show (JbxL1 B4 AS x y u vv a b c d w0 a0) (lq.setIfInBounds 16 true) (aq.put (some 11) v) W2 from ⟨hJ2.put hS 16 11 rfl (by omega) (W' := W2) hW hT v hv, hs⟩
      clear ho hall hl hQ
      generalize (JbxL1 B4 AS x y u vv a b c d w0 a0) (lq.setIfInBounds 16 true) = K at hK ⊢
      clear hJ2 hS z1 z2 z3 z4 z6 z7
      go_simp
      exact hK _ _ z5 (fun _ _ h => h) rfl (hs.quiet 16 11 _ (by decide) (by decide))
    | iq + 17, ho => simp at ho
  · intro lq aq W ⟨hJ, hs⟩ hr
    obtain ⟨z1, z2, z3, z4, z5, z6, z7⟩ := hJ
    have hl := listed_of hr [14, 0, 1, 2, 3, 4, 5, 6, 7, 8, 9, 10, 11, 12, 15, 13, 16] [] (by simp) (by kernel_rfl) (by rw [z1]; decide)
    exact hQ aq W z2 z3 (fun e he => z4 e (by simpa using he)) (z7 15 (hl 15 (by simp)) rfl) (z6 16 11 (hl 16 (by simp)) rfl) z5 (by obtain ⟨gz, e1, e2, _, e4⟩ := hs.2 (hl 14 (by simp)); exact ⟨gz, e1, by omega, e4 (hl 15 (by simp))⟩)
def VbxL2 (_B4 AS : Nat) (x y u vv a b c d : Int) (_B : Nat) : Nat → Value → World → Prop
  | 0, v, _ => v = .slice (some ⟨AS, 0, none⟩) 4 4
  | 1, v, _ => v = .int .i64 2
  | 2, v, _ => v = .pointer (some ⟨AS, 4, none⟩)
  | 3, v, _ => v = .agg #[.int .i64 x, .int .i64 y]
  | 4, v, _ => v = .slice (some ⟨AS, 0, none⟩) 4 4
  | 5, v, _ => v = .int .i64 2
  | 6, v, _ => v = .int .i64 3
  | 7, v, _ => v = .int .i64 3
  | 8, v, _ => v = .pointer (some ⟨AS, 6, none⟩)
  | 9, v, _ => v = .agg #[.int .i64 u, .int .i64 vv]
  | 10, v, _ => v = .tuple #[.agg #[.int .i64 a, .int .i64 b, .int .i64 c, .int .i64 d], .bool true]
  | 11, v, _ => v = .tuple #[.agg #[.int .i64 a, .int .i64 b, .int .i64 c, .int .i64 d], .bool true]
  | 12, v, _ => v = .agg #[.int .i64 a, .int .i64 b, .int .i64 c, .int .i64 d]
  | 13, v, _ => v = .bool true
  | 16, v, _ => v = .bool true
  | _, _, _ => True
theorem VbxL2.mono {B4 AS : Nat} {x y u vv a b c d : Int} {B j : Nat} {v : Value} {W W2 : World} (_hB : Below W.heap.size W W2) (h : VbxL2 B4 AS x y u vv a b c d B j v W) : VbxL2 B4 AS x y u vv a b c d B j v W2 := by
  unfold VbxL2 at *
  split <;> simp only at h <;> first | exact h | trivial
theorem VbxL2.same {B4 AS : Nat} {x y u vv a b c d : Int} {B j : Nat} {v : Value} {W W2 : World} (h : VbxL2 B4 AS x y u vv a b c d B j v W) : VbxL2 B4 AS x y u vv a b c d B j v W2 := by
  unfold VbxL2 at *
  split <;> simp only at h <;> first | exact h | trivial
def SbxL2 (B4 _AS : Nat) (_x _y _u _vv a b c d : Int) (lz : Array Bool) (az : Act) (W : World) : Prop := (lz.getD 15 false = true → lz.getD 14 false = true) ∧ (lz.getD 14 false = true → ∃ gz, az.tmps.getD 10 undef = .pointer (some ⟨gz, 0, none⟩) ∧ B4 ≤ gz ∧ (∃ z0q z1q z2q z3q, Blk W gz [z0q, z1q, z2q, z3q]) ∧ (lz.getD 15 false = true → Blk W gz [.int .i64 a, .int .i64 b, .int .i64 c, .int .i64 d]))
theorem SbxL2.quiet {B4 AS : Nat} {x y u vv a b c d : Int} {lz : Array Bool} {az : Act} {W : World} (h : SbxL2 B4 AS x y u vv a b c d lz az W) (i d' : Nat) (v : Value) (hi : i ≠ 14 ∧ i ≠ 15) (hd : d' ≠ 10) : SbxL2 B4 AS x y u vv a b c d (lz.setIfInBounds i true) (az.put (some d') v) W := by
  obtain ⟨h2, h3⟩ := h
  refine ⟨fun hl => ?_, fun hl => ?_⟩
  · rw [getD_set_ne false hi.2] at hl
    rw [getD_set_ne false hi.1]
    exact h2 hl
  · rw [getD_set_ne false hi.1] at hl
    obtain ⟨gz, e1, e2, e3, e4⟩ := h3 hl
    exact ⟨gz, by rw [put_getD_ne hd]; exact e1, e2, e3, fun h => e4 (by rw [getD_set_ne false hi.2] at h; exact h)⟩
theorem SbxL2.step {B4 AS : Nat} {x y u vv a b c d : Int} {lz : Array Bool} {az : Act} {W W2 : World} (h : SbxL2 B4 AS x y u vv a b c d lz az W) (hB : Below W.heap.size W W2) : SbxL2 B4 AS x y u vv a b c d lz az W2 := by
  obtain ⟨h2, h3⟩ := h
  refine ⟨h2, fun hl => ?_⟩
  obtain ⟨gz, e1, e2, ⟨z0q, z1q, z2q, z3q, e3⟩, e4⟩ := h3 hl
  exact ⟨gz, e1, e2, ⟨_, _, _, _, e3.step hB⟩, fun h => (e4 h).step hB⟩
theorem SbxL2.nine {B4 AS : Nat} {x y u vv a b c d : Int} {lz : Array Bool} {az : Act} {W : World} (h : SbxL2 B4 AS x y u vv a b c d lz az W) (hn : lz.getD 14 true = false) {gz : Nat} (hs : 10 < az.tmps.size) (hz : B4 ≤ gz) (hb : Blk W gz [.int .i64 0, .int .i64 0, .int .i64 0, .int .i64 0]) : SbxL2 B4 AS x y u vv a b c d (lz.setIfInBounds 14 true) (az.put (some 10) (.pointer (some ⟨gz, 0, none⟩))) W := by
  obtain ⟨h2, h3⟩ := h
  have hn' : lz.getD 14 false = false := getD_listedX hn
  refine ⟨fun hl => ?_, fun _ => ⟨gz, put_getD_same hs, hz, ⟨_, _, _, _, hb⟩, fun hl => ?_⟩⟩
  · rw [getD_set_ne false (by decide)] at hl
    rw [h2 hl] at hn'
    cases hn'
  · rw [getD_set_ne false (by decide)] at hl
    rw [h2 hl] at hn'
    cases hn'
theorem SbxL2.ten {B4 AS : Nat} {x y u vv a b c d : Int} {lz : Array Bool} {az : Act} {W W2 : World} (_ : SbxL2 B4 AS x y u vv a b c d lz az W) (h9 : lz.getD 14 false = true) {gz : Nat} (e1 : az.tmps.getD 10 undef = .pointer (some ⟨gz, 0, none⟩)) (e2 : B4 ≤ gz) (hb : Blk W2 gz [.int .i64 a, .int .i64 b, .int .i64 c, .int .i64 d]) : SbxL2 B4 AS x y u vv a b c d (lz.setIfInBounds 15 true) az W2 := by
  refine ⟨fun _ => ?_, fun _ => ⟨gz, e1, e2, ⟨_, _, _, _, hb⟩, fun _ => hb⟩⟩
  rw [getD_set_ne false (by decide)]; exact h9

def JbxL2 (B4 AS : Nat) (x y u vv a b c d : Int) (w0 : World) (a0 : Act) (lz : Array Bool) (az : Act) (W : World) : Prop := InvQ (w0.heap.size) [some 108, some 109, some 110, some 111, some 112, some 113, some 114, some 115, some 116, some 117, some 118, some 107, some 119, some 120, some 10, none, some 11] (VbxL2 B4 AS x y u vv a b c d (w0.heap.size)) w0 a0 lz az W ∧ SbxL2 B4 AS x y u vv a b c d lz az W
set_option maxRecDepth 100000 in
set_option maxHeartbeats 4000000 in
theorem bxL2 {Q : Exit → Act → World → Prop} {B4 AS : Nat} {x y u vv a b c d : Int}  {w0 : World} {a0 : Act} {idq : Nat} {t0 t1 t2 t3 t4 t5 t6 t7 t8 t9 t10 t11 t12 t13 t14 t15 t16 : TypeId} {q0 q1 q2 q3 q4 q5 q6 q7 q8 q9 q10 q11 q12 q13 q14 q15 q16 : String}
    (hB4 : B4 = w0.heap.size) (hN : ∀ w, Calls Try.prog 10 #[.agg #[.int .i64 x, .int .i64 y], .agg #[.int .i64 u, .int .i64 vv]] w (VP (.tuple #[.agg #[.int .i64 a, .int .i64 b, .int .i64 c, .int .i64 d], .bool true]) w)) (h8 : a0.tmps[8]? = some (.slice (some ⟨AS, 0, none⟩) 4 4)) (h9 : a0.tmps[9]? = some (.int .i64 2)) (k0 : w0.cell? ⟨AS, 4, none⟩ = some (.int .i64 x)) (l0 : (⟨AS, 4, none⟩ : Addr).block < w0.heap.size) (k1 : w0.cell? ⟨AS, 5, none⟩ = some (.int .i64 y)) (l1 : (⟨AS, 5, none⟩ : Addr).block < w0.heap.size) (k2 : w0.cell? ⟨AS, 6, none⟩ = some (.int .i64 u)) (l2 : (⟨AS, 6, none⟩ : Addr).block < w0.heap.size) (k3 : w0.cell? ⟨AS, 7, none⟩ = some (.int .i64 vv)) (l3 : (⟨AS, 7, none⟩ : Addr).block < w0.heap.size) (hz : a0.tmps.size = 172)
    (hQ : ∀ aq W, aq.tmps.size = a0.tmps.size → aq.defers = a0.defers → (∀ e, e ∉ ([108, 109, 110, 111, 112, 113, 114, 115, 116, 117, 118, 107, 119, 120, 10, 11] : List Nat) → aq.tmps[e]? = a0.tmps[e]?) → VbxL2 B4 AS x y u vv a b c d (w0.heap.size) 15 undef W → VbxL2 B4 AS x y u vv a b c d (w0.heap.size) 16 (aq.tmps.getD 11 undef) W → Below (w0.heap.size) w0 W → (∃ gz, aq.tmps.getD 10 undef = .pointer (some ⟨gz, 0, none⟩) ∧ w0.heap.size ≤ gz ∧ Blk W gz [.int .i64 a, .int .i64 b, .int .i64 c, .int .i64 d]) → Q .normal aq W) :
    (Code.region idq #[{ dst := some 108, op := Op.move (Operand.tmp 8), type := t0, pos := q0, after := #[], guard := none },
    { dst := some 109, op := Op.move (Operand.tmp 9), type := t1, pos := q1, after := #[], guard := none },
    { dst := some 110, op := Op.indexAddr 33 (Operand.tmp 108) (Operand.tmp 109), type := t2, pos := q2, after := #[{ on := 0, ground := Ground.data }, { on := 1, ground := Ground.data }], guard := none },
    { dst := some 111, op := Op.load 25 (Operand.tmp 110), type := t3, pos := q3, after := #[{ on := 2, ground := Ground.data }], guard := none },
    { dst := some 112, op := Op.move (Operand.tmp 8), type := t4, pos := q4, after := #[], guard := none },
    { dst := some 113, op := Op.move (Operand.tmp 9), type := t5, pos := q5, after := #[], guard := none },
    { dst := some 114, op := Op.binOp BinOp.add 3 (Operand.tmp 113) (Operand.const (Value.int IntKind.i64 1)) 3, type := t6, pos := q6, after := #[{ on := 5, ground := Ground.data }], guard := none },
    { dst := some 115, op := Op.binOp BinOp.rem 3 (Operand.tmp 114) (Operand.const (Value.int IntKind.i64 4)) 3, type := t7, pos := q7, after := #[{ on := 6, ground := Ground.data }], guard := none },
    { dst := some 116, op := Op.indexAddr 33 (Operand.tmp 112) (Operand.tmp 115), type := t8, pos := q8, after := #[{ on := 4, ground := Ground.data }, { on := 7, ground := Ground.data }], guard := none },
    { dst := some 117, op := Op.load 25 (Operand.tmp 116), type := t9, pos := q9, after := #[{ on := 8, ground := Ground.data }], guard := none },
    { dst := some 118, op := Op.call { callee := Callee.value (Operand.func 10), args := #[Operand.tmp 111, Operand.tmp 117], argTypes := #[25, 25] }, type := t10, pos := q10, after := #[{ on := 3, ground := Ground.data }, { on := 9, ground := Ground.data }], guard := none },
    { dst := some 107, op := Op.move (Operand.tmp 118), type := t11, pos := q11, after := #[{ on := 10, ground := Ground.data }], guard := none },
    { dst := some 119, op := Op.extract (Operand.tmp 107) 0, type := t12, pos := q12, after := #[{ on := 11, ground := Ground.data }], guard := none },
    { dst := some 120, op := Op.extract (Operand.tmp 107) 1, type := t13, pos := q13, after := #[{ on := 11, ground := Ground.data }, { on := 15, ground := Ground.gcOnly Departure.lateStores }], guard := none },
    { dst := some 10, op := Op.alloc 27, type := t14, pos := q14, after := #[], guard := none },
    { dst := none, op := Op.store 27 (Operand.tmp 10) (Operand.tmp 119), type := t15, pos := q15, after := #[{ on := 14, ground := Ground.data }, { on := 12, ground := Ground.data }, { on := 10, ground := Ground.chain }, { on := 0, ground := Ground.phase }, { on := 1, ground := Ground.phase }, { on := 2, ground := Ground.phase }, { on := 3, ground := Ground.phase }, { on := 4, ground := Ground.phase }, { on := 5, ground := Ground.phase }, { on := 6, ground := Ground.phase }, { on := 7, ground := Ground.phase }, { on := 8, ground := Ground.phase }, { on := 9, ground := Ground.phase }, { on := 10, ground := Ground.phase }, { on := 11, ground := Ground.phase }, { on := 12, ground := Ground.phase }, { on := 13, ground := Ground.textOnly Departure.lateStores }, { on := 14, ground := Ground.phase }], guard := none },
    { dst := some 11, op := Op.assign (Operand.tmp 120), type := t16, pos := q16, after := #[{ on := 13, ground := Ground.data }, { on := 15, ground := Ground.chain }, { on := 0, ground := Ground.phase }, { on := 1, ground := Ground.phase }, { on := 2, ground := Ground.phase }, { on := 3, ground := Ground.phase }, { on := 4, ground := Ground.phase }, { on := 5, ground := Ground.phase }, { on := 6, ground := Ground.phase }, { on := 7, ground := Ground.phase }, { on := 8, ground := Ground.phase }, { on := 9, ground := Ground.phase }, { on := 10, ground := Ground.phase }, { on := 11, ground := Ground.phase }, { on := 12, ground := Ground.phase }, { on := 13, ground := Ground.phase }, { on := 14, ground := Ground.phase }, { on := 15, ground := Ground.phase }], guard := none }] true).wp Try.prog Q a0 w0 := by
  have hS : distS [some 108, some 109, some 110, some 111, some 112, some 113, some 114, some 115, some 116, some 117, some 118, some 107, some 119, some 120, some 10, none, some 11] = true := rfl
  refine wp_region_inv (by kernel_rfl) (JbxL2 B4 AS x y u vv a b c d w0 a0) ⟨⟨rfl, rfl, rfl, fun _ _ => rfl, (Below.refl _ w0).drew, fun j d hj => ?_, fun j hj => ?_⟩, ⟨fun h => by exfalso; rw [Array.getD_eq_getD_getElem?, Array.getElem?_replicate] at h; split at h <;> simp at h, fun h => by exfalso; rw [Array.getD_eq_getD_getElem?, Array.getElem?_replicate] at h; split at h <;> simp at h⟩⟩ ?_ ?_
  · exfalso
    rw [Array.getD_eq_getD_getElem?, Array.getElem?_replicate] at hj
    split at hj <;> simp at hj
  · exfalso
    rw [Array.getD_eq_getD_getElem?, Array.getElem?_replicate] at hj
    split at hj <;> simp at hj
  · intro lq aq W iq oq ⟨hJ, hs⟩ hl ho hall
    have hJ2 := hJ
    obtain ⟨z1, z2, z3, z4, z5, z6, z7⟩ := hJ
    have g8 : aq.tmps.getD 8 undef = .slice (some ⟨AS, 0, none⟩) 4 4 := by rw [Array.getD_eq_getD_getElem?, z4 8 (by decide), h8]; rfl
    have g9 : aq.tmps.getD 9 undef = .int .i64 2 := by rw [Array.getD_eq_getD_getElem?, z4 9 (by decide), h9]; rfl
    have c0 : W.cell? ⟨AS, 4, none⟩ = some (.int .i64 x) := (z5.cell l0).trans k0
    have c1 : W.cell? ⟨AS, 5, none⟩ = some (.int .i64 y) := (z5.cell l1).trans k1
    have c2 : W.cell? ⟨AS, 6, none⟩ = some (.int .i64 u) := (z5.cell l2).trans k2
    have c3 : W.cell? ⟨AS, 7, none⟩ = some (.int .i64 vv) := (z5.cell l3).trans k3
    match iq, ho with
    | 0, ho =>
      cases ho
      refine wpOp_of rfl rfl ?_
      have hK := fun (v : Value) (W2 : World) hW hT hv (hs : SbxL2 B4 AS x y u vv a b c d (lq.setIfInBounds 0 true) (aq.put (some 108) v) W2) => show (JbxL2 B4 AS x y u vv a b c d w0 a0) (lq.setIfInBounds 0 true) (aq.put (some 108) v) W2 from ⟨hJ2.put hS 0 108 rfl (by omega) (W' := W2) hW hT v hv, hs⟩
      clear ho hall hl hQ
      generalize (JbxL2 B4 AS x y u vv a b c d w0 a0) (lq.setIfInBounds 0 true) = K at hK ⊢
      clear hJ2 hS z1 z2 z3 z4 z6 z7
      go_simp
      exact hK _ _ z5 (fun _ _ h => h) rfl (hs.quiet 0 108 _ (by decide) (by decide))
    | 1, ho =>
      cases ho
      refine wpOp_of rfl rfl ?_
      have hK := fun (v : Value) (W2 : World) hW hT hv (hs : SbxL2 B4 AS x y u vv a b c d (lq.setIfInBounds 1 true) (aq.put (some 109) v) W2) => show (JbxL2 B4 AS x y u vv a b c d w0 a0) (lq.setIfInBounds 1 true) (aq.put (some 109) v) W2 from ⟨hJ2.put hS 1 109 rfl (by omega) (W' := W2) hW hT v hv, hs⟩
      clear ho hall hl hQ
      generalize (JbxL2 B4 AS x y u vv a b c d w0 a0) (lq.setIfInBounds 1 true) = K at hK ⊢
      clear hJ2 hS z1 z2 z3 z4 z6 z7
      go_simp
      exact hK _ _ z5 (fun _ _ h => h) rfl (hs.quiet 1 109 _ (by decide) (by decide))
    | 2, ho =>
      cases ho
      refine wpOp_of rfl rfl ?_
      have f0 : (aq.tmps.getD 108 undef) = .slice (some ⟨AS, 0, none⟩) 4 4 := z6 0 108 (hall { on := 0, ground := Ground.data } (by simp) rfl) rfl
      have f1 : (aq.tmps.getD 109 undef) = .int .i64 2 := z6 1 109 (hall { on := 1, ground := Ground.data } (by simp) rfl) rfl
      have hK := fun (v : Value) (W2 : World) hW hT hv (hs : SbxL2 B4 AS x y u vv a b c d (lq.setIfInBounds 2 true) (aq.put (some 110) v) W2) => show (JbxL2 B4 AS x y u vv a b c d w0 a0) (lq.setIfInBounds 2 true) (aq.put (some 110) v) W2 from ⟨hJ2.put hS 2 110 rfl (by omega) (W' := W2) hW hT v hv, hs⟩
      clear ho hall hl hQ
      generalize (JbxL2 B4 AS x y u vv a b c d w0 a0) (lq.setIfInBounds 2 true) = K at hK ⊢
      clear hJ2 hS z1 z2 z3 z4 z6 z7
      go_simp
      exact hK _ _ z5 (fun _ _ h => h) rfl (hs.quiet 2 110 _ (by decide) (by decide))
    | 3, ho =>
      cases ho
      refine wpOp_of rfl rfl ?_
      have f2 : (aq.tmps.getD 110 undef) = .pointer (some ⟨AS, 4, none⟩) := z6 2 110 (hall { on := 2, ground := Ground.data } (by simp) rfl) rfl
      have hK := fun (v : Value) (W2 : World) hW hT hv (hs : SbxL2 B4 AS x y u vv a b c d (lq.setIfInBounds 3 true) (aq.put (some 111) v) W2) => show (JbxL2 B4 AS x y u vv a b c d w0 a0) (lq.setIfInBounds 3 true) (aq.put (some 111) v) W2 from ⟨hJ2.put hS 3 111 rfl (by omega) (W' := W2) hW hT v hv, hs⟩
      clear ho hall hl hQ
      generalize (JbxL2 B4 AS x y u vv a b c d w0 a0) (lq.setIfInBounds 3 true) = K at hK ⊢
      clear hJ2 hS z1 z2 z3 z4 z6 z7
      go_simp
      exact hK _ _ z5 (fun _ _ h => h) rfl (hs.quiet 3 111 _ (by decide) (by decide))
    | 4, ho =>
      cases ho
      refine wpOp_of rfl rfl ?_
      have hK := fun (v : Value) (W2 : World) hW hT hv (hs : SbxL2 B4 AS x y u vv a b c d (lq.setIfInBounds 4 true) (aq.put (some 112) v) W2) => show (JbxL2 B4 AS x y u vv a b c d w0 a0) (lq.setIfInBounds 4 true) (aq.put (some 112) v) W2 from ⟨hJ2.put hS 4 112 rfl (by omega) (W' := W2) hW hT v hv, hs⟩
      clear ho hall hl hQ
      generalize (JbxL2 B4 AS x y u vv a b c d w0 a0) (lq.setIfInBounds 4 true) = K at hK ⊢
      clear hJ2 hS z1 z2 z3 z4 z6 z7
      go_simp
      exact hK _ _ z5 (fun _ _ h => h) rfl (hs.quiet 4 112 _ (by decide) (by decide))
    | 5, ho =>
      cases ho
      refine wpOp_of rfl rfl ?_
      have hK := fun (v : Value) (W2 : World) hW hT hv (hs : SbxL2 B4 AS x y u vv a b c d (lq.setIfInBounds 5 true) (aq.put (some 113) v) W2) => show (JbxL2 B4 AS x y u vv a b c d w0 a0) (lq.setIfInBounds 5 true) (aq.put (some 113) v) W2 from ⟨hJ2.put hS 5 113 rfl (by omega) (W' := W2) hW hT v hv, hs⟩
      clear ho hall hl hQ
      generalize (JbxL2 B4 AS x y u vv a b c d w0 a0) (lq.setIfInBounds 5 true) = K at hK ⊢
      clear hJ2 hS z1 z2 z3 z4 z6 z7
      go_simp
      exact hK _ _ z5 (fun _ _ h => h) rfl (hs.quiet 5 113 _ (by decide) (by decide))
    | 6, ho =>
      cases ho
      refine wpOp_of rfl rfl ?_
      have f5 : (aq.tmps.getD 113 undef) = .int .i64 2 := z6 5 113 (hall { on := 5, ground := Ground.data } (by simp) rfl) rfl
      have hK := fun (v : Value) (W2 : World) hW hT hv (hs : SbxL2 B4 AS x y u vv a b c d (lq.setIfInBounds 6 true) (aq.put (some 114) v) W2) => show (JbxL2 B4 AS x y u vv a b c d w0 a0) (lq.setIfInBounds 6 true) (aq.put (some 114) v) W2 from ⟨hJ2.put hS 6 114 rfl (by omega) (W' := W2) hW hT v hv, hs⟩
      clear ho hall hl hQ
      generalize (JbxL2 B4 AS x y u vv a b c d w0 a0) (lq.setIfInBounds 6 true) = K at hK ⊢
      clear hJ2 hS z1 z2 z3 z4 z6 z7
      go_simp
      exact hK _ _ z5 (fun _ _ h => h) rfl (hs.quiet 6 114 _ (by decide) (by decide))
    | 7, ho =>
      cases ho
      refine wpOp_of rfl rfl ?_
      have f6 : (aq.tmps.getD 114 undef) = .int .i64 3 := z6 6 114 (hall { on := 6, ground := Ground.data } (by simp) rfl) rfl
      have hK := fun (v : Value) (W2 : World) hW hT hv (hs : SbxL2 B4 AS x y u vv a b c d (lq.setIfInBounds 7 true) (aq.put (some 115) v) W2) => show (JbxL2 B4 AS x y u vv a b c d w0 a0) (lq.setIfInBounds 7 true) (aq.put (some 115) v) W2 from ⟨hJ2.put hS 7 115 rfl (by omega) (W' := W2) hW hT v hv, hs⟩
      clear ho hall hl hQ
      generalize (JbxL2 B4 AS x y u vv a b c d w0 a0) (lq.setIfInBounds 7 true) = K at hK ⊢
      clear hJ2 hS z1 z2 z3 z4 z6 z7
      go_simp
      exact hK _ _ z5 (fun _ _ h => h) rfl (hs.quiet 7 115 _ (by decide) (by decide))
    | 8, ho =>
      cases ho
      refine wpOp_of rfl rfl ?_
      have f4 : (aq.tmps.getD 112 undef) = .slice (some ⟨AS, 0, none⟩) 4 4 := z6 4 112 (hall { on := 4, ground := Ground.data } (by simp) rfl) rfl
      have f7 : (aq.tmps.getD 115 undef) = .int .i64 3 := z6 7 115 (hall { on := 7, ground := Ground.data } (by simp) rfl) rfl
      have hK := fun (v : Value) (W2 : World) hW hT hv (hs : SbxL2 B4 AS x y u vv a b c d (lq.setIfInBounds 8 true) (aq.put (some 116) v) W2) => show (JbxL2 B4 AS x y u vv a b c d w0 a0) (lq.setIfInBounds 8 true) (aq.put (some 116) v) W2 from ⟨hJ2.put hS 8 116 rfl (by omega) (W' := W2) hW hT v hv, hs⟩
      clear ho hall hl hQ
      generalize (JbxL2 B4 AS x y u vv a b c d w0 a0) (lq.setIfInBounds 8 true) = K at hK ⊢
      clear hJ2 hS z1 z2 z3 z4 z6 z7
      go_simp
      exact hK _ _ z5 (fun _ _ h => h) rfl (hs.quiet 8 116 _ (by decide) (by decide))
    | 9, ho =>
      cases ho
      refine wpOp_of rfl rfl ?_
      have f8 : (aq.tmps.getD 116 undef) = .pointer (some ⟨AS, 6, none⟩) := z6 8 116 (hall { on := 8, ground := Ground.data } (by simp) rfl) rfl
      have hK := fun (v : Value) (W2 : World) hW hT hv (hs : SbxL2 B4 AS x y u vv a b c d (lq.setIfInBounds 9 true) (aq.put (some 117) v) W2) => show (JbxL2 B4 AS x y u vv a b c d w0 a0) (lq.setIfInBounds 9 true) (aq.put (some 117) v) W2 from ⟨hJ2.put hS 9 117 rfl (by omega) (W' := W2) hW hT v hv, hs⟩
      clear ho hall hl hQ
      generalize (JbxL2 B4 AS x y u vv a b c d w0 a0) (lq.setIfInBounds 9 true) = K at hK ⊢
      clear hJ2 hS z1 z2 z3 z4 z6 z7
      go_simp
      exact hK _ _ z5 (fun _ _ h => h) rfl (hs.quiet 9 117 _ (by decide) (by decide))
    | 10, ho =>
      cases ho
      refine wpOp_of rfl rfl ?_
      have f3 : (aq.tmps.getD 111 undef) = .agg #[.int .i64 x, .int .i64 y] := z6 3 111 (hall { on := 3, ground := Ground.data } (by simp) rfl) rfl
      have f9 : (aq.tmps.getD 117 undef) = .agg #[.int .i64 u, .int .i64 vv] := z6 9 117 (hall { on := 9, ground := Ground.data } (by simp) rfl) rfl
      have hK := fun (v : Value) (W2 : World) hW hT hv (hs : SbxL2 B4 AS x y u vv a b c d (lq.setIfInBounds 10 true) (aq.put (some 118) v) W2) => show (JbxL2 B4 AS x y u vv a b c d w0 a0) (lq.setIfInBounds 10 true) (aq.put (some 118) v) W2 from ⟨hJ2.put hS 10 118 rfl (by omega) (W' := W2) hW hT v hv, hs⟩
      clear ho hall hl hQ
      generalize (JbxL2 B4 AS x y u vv a b c d w0 a0) (lq.setIfInBounds 10 true) = K at hK ⊢
      clear hJ2 hS z1 z2 z3 z4 z6 z7
      go_simp
      refine (hN W).mono ?_
      rintro e v1 ⟨rfl, hBv⟩
      exact hK _ _ (z5.trans (hBv.mono z5.size)) (fun _ _ h => h.mono hBv) rfl ((hs.step hBv).quiet 10 118 _ (by decide) (by decide))
    | 11, ho =>
      cases ho
      refine wpOp_of rfl rfl ?_
      have f10 : (aq.tmps.getD 118 undef) = .tuple #[.agg #[.int .i64 a, .int .i64 b, .int .i64 c, .int .i64 d], .bool true] := z6 10 118 (hall { on := 10, ground := Ground.data } (by simp) rfl) rfl
      have hK := fun (v : Value) (W2 : World) hW hT hv (hs : SbxL2 B4 AS x y u vv a b c d (lq.setIfInBounds 11 true) (aq.put (some 107) v) W2) => show (JbxL2 B4 AS x y u vv a b c d w0 a0) (lq.setIfInBounds 11 true) (aq.put (some 107) v) W2 from ⟨hJ2.put hS 11 107 rfl (by omega) (W' := W2) hW hT v hv, hs⟩
      clear ho hall hl hQ
      generalize (JbxL2 B4 AS x y u vv a b c d w0 a0) (lq.setIfInBounds 11 true) = K at hK ⊢
      clear hJ2 hS z1 z2 z3 z4 z6 z7
      go_simp
      exact hK _ _ z5 (fun _ _ h => h) rfl (hs.quiet 11 107 _ (by decide) (by decide))
    | 12, ho =>
      cases ho
      refine wpOp_of rfl rfl ?_
      have f11 : (aq.tmps.getD 107 undef) = .tuple #[.agg #[.int .i64 a, .int .i64 b, .int .i64 c, .int .i64 d], .bool true] := z6 11 107 (hall { on := 11, ground := Ground.data } (by simp) rfl) rfl
      have hK := fun (v : Value) (W2 : World) hW hT hv (hs : SbxL2 B4 AS x y u vv a b c d (lq.setIfInBounds 12 true) (aq.put (some 119) v) W2) => show (JbxL2 B4 AS x y u vv a b c d w0 a0) (lq.setIfInBounds 12 true) (aq.put (some 119) v) W2 from ⟨hJ2.put hS 12 119 rfl (by omega) (W' := W2) hW hT v hv, hs⟩
      clear ho hall hl hQ
      generalize (JbxL2 B4 AS x y u vv a b c d w0 a0) (lq.setIfInBounds 12 true) = K at hK ⊢
      clear hJ2 hS z1 z2 z3 z4 z6 z7
      go_simp
      exact hK _ _ z5 (fun _ _ h => h) rfl (hs.quiet 12 119 _ (by decide) (by decide))
    | 13, ho =>
      cases ho
      refine wpOp_of rfl rfl ?_
      have f11 : (aq.tmps.getD 107 undef) = .tuple #[.agg #[.int .i64 a, .int .i64 b, .int .i64 c, .int .i64 d], .bool true] := z6 11 107 (hall { on := 11, ground := Ground.data } (by simp) rfl) rfl
      have hK := fun (v : Value) (W2 : World) hW hT hv (hs : SbxL2 B4 AS x y u vv a b c d (lq.setIfInBounds 13 true) (aq.put (some 120) v) W2) => show (JbxL2 B4 AS x y u vv a b c d w0 a0) (lq.setIfInBounds 13 true) (aq.put (some 120) v) W2 from ⟨hJ2.put hS 13 120 rfl (by omega) (W' := W2) hW hT v hv, hs⟩
      clear ho hall hl hQ
      generalize (JbxL2 B4 AS x y u vv a b c d w0 a0) (lq.setIfInBounds 13 true) = K at hK ⊢
      clear hJ2 hS z1 z2 z3 z4 z6 z7
      go_simp
      exact hK _ _ z5 (fun _ _ h => h) rfl (hs.quiet 13 120 _ (by decide) (by decide))
    | 14, ho =>
      cases ho
      refine wpOp_of rfl rfl ?_
      have hl9 := hl
      have hsz : 10 < aq.tmps.size := by omega
      have hK := fun (v : Value) (W2 : World) hW hT hv (hs : SbxL2 B4 AS x y u vv a b c d (lq.setIfInBounds 14 true) (aq.put (some 10) v) W2) => show (JbxL2 B4 AS x y u vv a b c d w0 a0) (lq.setIfInBounds 14 true) (aq.put (some 10) v) W2 from ⟨hJ2.put hS 14 10 rfl (by omega) (W' := W2) hW hT v hv, hs⟩
      clear ho hall hl hQ
      generalize (JbxL2 B4 AS x y u vv a b c d w0 a0) (lq.setIfInBounds 14 true) = K at hK ⊢
      clear hJ2 hS z1 z2 z3 z4 z6 z7
      go_simp
      exact hK _ _ (z5.alloc z5.size _) (fun _ _ h => h.mono ((Below.refl _ _).alloc (Nat.le_refl _) _)) trivial ((hs.step ((Below.refl _ _).alloc (Nat.le_refl _) _)).nine hl9 hsz (by have := z5.size; omega) (Blk.new W [.int .i64 0, .int .i64 0, .int .i64 0, .int .i64 0] _ rfl))
    | 15, ho =>
      cases ho
      refine wpOp_of rfl rfl ?_
      have f14 : True := z6 14 10 (hall { on := 14, ground := Ground.data } (by simp) rfl) rfl
      have f12 : (aq.tmps.getD 119 undef) = .agg #[.int .i64 a, .int .i64 b, .int .i64 c, .int .i64 d] := z6 12 119 (hall { on := 12, ground := Ground.data } (by simp) rfl) rfl
      have l9 : lq.getD 14 false = true := hall { on := 14, ground := Ground.data } (by simp) rfl
      have hK := fun (W2 : World) hW hT hv (hs : SbxL2 B4 AS x y u vv a b c d (lq.setIfInBounds 15 true) aq W2) => show (JbxL2 B4 AS x y u vv a b c d w0 a0) (lq.setIfInBounds 15 true) aq W2 from ⟨hJ2.world 15 rfl (W' := W2) hW hT hv, hs⟩
      clear ho hall hl hQ
      generalize (JbxL2 B4 AS x y u vv a b c d w0 a0) (lq.setIfInBounds 15 true) = K at hK ⊢
      clear hJ2 hS z1 z2 z3 z4 z6 z7
      obtain ⟨gz, e7, hgz, ⟨z0q, z1q, z2q, z3q, GZ⟩, _⟩ := hs.2 l9
      have gl := GZ.lt
      have c0z := GZ.c 0 rfl; have d0z := GZ.f 0 rfl; have c1z := GZ.c 1 rfl; have d1z := GZ.f 1 rfl; have c2z := GZ.c 2 rfl; have d2z := GZ.f 2 rfl; have c3z := GZ.c 3 rfl; have d3z := GZ.f 3 rfl
      have NB : Blk ((((W.setCell ⟨gz, 0, none⟩ (.int .i64 a)).setCell ⟨gz, 1, none⟩ (.int .i64 b)).setCell ⟨gz, 2, none⟩ (.int .i64 c)).setCell ⟨gz, 3, none⟩ (.int .i64 d)) gz [.int .i64 a, .int .i64 b, .int .i64 c, .int .i64 d] := ((((GZ.setI 0 (by simp) _).setI 1 (by simp) _).setI 2 (by simp) _).setI 3 (by simp) _)
      have hgw : w0.heap.size ≤ gz := by omega
      have NL : Below w0.heap.size w0 ((((W.setCell ⟨gz, 0, none⟩ (.int .i64 a)).setCell ⟨gz, 1, none⟩ (.int .i64 b)).setCell ⟨gz, 2, none⟩ (.int .i64 c)).setCell ⟨gz, 3, none⟩ (.int .i64 d)) := ((((z5.setCell (p := ⟨gz, 0, none⟩) hgw _).setCell (p := ⟨gz, 1, none⟩) hgw _).setCell (p := ⟨gz, 2, none⟩) hgw _).setCell (p := ⟨gz, 3, none⟩) hgw _)
      have HS := hs.ten l9 e7 hgz NB
      clear GZ NB hs
      go_simp
      exact hK _ NL (fun j v h => VbxL2.same h) trivial HS
    | 16, ho =>
      cases ho
      refine wpOp_of rfl rfl ?_
      have f13 : (aq.tmps.getD 120 undef) = .bool true := z6 13 120 (hall { on := 13, ground := Ground.data } (by simp) rfl) rfl
      have hK := fun (v : Value) (W2 : World) hW hT hv (hs : SbxL2 B4 AS x y u vv a b c d (lq.setIfInBounds 16 true) (aq.put (some 11) v) W2) => show (JbxL2 B4 AS x y u vv a b c d w0 a0) (lq.setIfInBounds 16 true) (aq.put (some 11) v) W2 from ⟨hJ2.put hS 16 11 rfl (by omega) (W' := W2) hW hT v hv, hs⟩
      clear ho hall hl hQ
      generalize (JbxL2 B4 AS x y u vv a b c d w0 a0) (lq.setIfInBounds 16 true) = K at hK ⊢
      clear hJ2 hS z1 z2 z3 z4 z6 z7
      go_simp
      exact hK _ _ z5 (fun _ _ h => h) rfl (hs.quiet 16 11 _ (by decide) (by decide))
    | iq + 17, ho => simp at ho
  · intro lq aq W ⟨hJ, hs⟩ hr
    obtain ⟨z1, z2, z3, z4, z5, z6, z7⟩ := hJ
    have hl := listed_of hr [14, 0, 1, 2, 3, 4, 5, 6, 7, 8, 9, 10, 11, 12, 15, 13, 16] [] (by simp) (by kernel_rfl) (by rw [z1]; decide)
    exact hQ aq W z2 z3 (fun e he => z4 e (by simpa using he)) (z7 15 (hl 15 (by simp)) rfl) (z6 16 11 (hl 16 (by simp)) rfl) z5 (by obtain ⟨gz, e1, e2, _, e4⟩ := hs.2 (hl 14 (by simp)); exact ⟨gz, e1, by omega, e4 (hl 15 (by simp))⟩)
def VbxL3 (_B4 AS : Nat) (x y u vv a b c d : Int) (_B : Nat) : Nat → Value → World → Prop
  | 0, v, _ => v = .slice (some ⟨AS, 0, none⟩) 4 4
  | 1, v, _ => v = .int .i64 3
  | 2, v, _ => v = .pointer (some ⟨AS, 6, none⟩)
  | 3, v, _ => v = .agg #[.int .i64 x, .int .i64 y]
  | 4, v, _ => v = .slice (some ⟨AS, 0, none⟩) 4 4
  | 5, v, _ => v = .int .i64 3
  | 6, v, _ => v = .int .i64 4
  | 7, v, _ => v = .int .i64 0
  | 8, v, _ => v = .pointer (some ⟨AS, 0, none⟩)
  | 9, v, _ => v = .agg #[.int .i64 u, .int .i64 vv]
  | 10, v, _ => v = .tuple #[.agg #[.int .i64 a, .int .i64 b, .int .i64 c, .int .i64 d], .bool true]
  | 11, v, _ => v = .tuple #[.agg #[.int .i64 a, .int .i64 b, .int .i64 c, .int .i64 d], .bool true]
  | 12, v, _ => v = .agg #[.int .i64 a, .int .i64 b, .int .i64 c, .int .i64 d]
  | 13, v, _ => v = .bool true
  | 16, v, _ => v = .bool true
  | _, _, _ => True
theorem VbxL3.mono {B4 AS : Nat} {x y u vv a b c d : Int} {B j : Nat} {v : Value} {W W2 : World} (_hB : Below W.heap.size W W2) (h : VbxL3 B4 AS x y u vv a b c d B j v W) : VbxL3 B4 AS x y u vv a b c d B j v W2 := by
  unfold VbxL3 at *
  split <;> simp only at h <;> first | exact h | trivial
theorem VbxL3.same {B4 AS : Nat} {x y u vv a b c d : Int} {B j : Nat} {v : Value} {W W2 : World} (h : VbxL3 B4 AS x y u vv a b c d B j v W) : VbxL3 B4 AS x y u vv a b c d B j v W2 := by
  unfold VbxL3 at *
  split <;> simp only at h <;> first | exact h | trivial
def SbxL3 (B4 _AS : Nat) (_x _y _u _vv a b c d : Int) (lz : Array Bool) (az : Act) (W : World) : Prop := (lz.getD 15 false = true → lz.getD 14 false = true) ∧ (lz.getD 14 false = true → ∃ gz, az.tmps.getD 10 undef = .pointer (some ⟨gz, 0, none⟩) ∧ B4 ≤ gz ∧ (∃ z0q z1q z2q z3q, Blk W gz [z0q, z1q, z2q, z3q]) ∧ (lz.getD 15 false = true → Blk W gz [.int .i64 a, .int .i64 b, .int .i64 c, .int .i64 d]))
theorem SbxL3.quiet {B4 AS : Nat} {x y u vv a b c d : Int} {lz : Array Bool} {az : Act} {W : World} (h : SbxL3 B4 AS x y u vv a b c d lz az W) (i d' : Nat) (v : Value) (hi : i ≠ 14 ∧ i ≠ 15) (hd : d' ≠ 10) : SbxL3 B4 AS x y u vv a b c d (lz.setIfInBounds i true) (az.put (some d') v) W := by
  obtain ⟨h2, h3⟩ := h
  refine ⟨fun hl => ?_, fun hl => ?_⟩
  · rw [getD_set_ne false hi.2] at hl
    rw [getD_set_ne false hi.1]
    exact h2 hl
  · rw [getD_set_ne false hi.1] at hl
    obtain ⟨gz, e1, e2, e3, e4⟩ := h3 hl
    exact ⟨gz, by rw [put_getD_ne hd]; exact e1, e2, e3, fun h => e4 (by rw [getD_set_ne false hi.2] at h; exact h)⟩
theorem SbxL3.step {B4 AS : Nat} {x y u vv a b c d : Int} {lz : Array Bool} {az : Act} {W W2 : World} (h : SbxL3 B4 AS x y u vv a b c d lz az W) (hB : Below W.heap.size W W2) : SbxL3 B4 AS x y u vv a b c d lz az W2 := by
  obtain ⟨h2, h3⟩ := h
  refine ⟨h2, fun hl => ?_⟩
  obtain ⟨gz, e1, e2, ⟨z0q, z1q, z2q, z3q, e3⟩, e4⟩ := h3 hl
  exact ⟨gz, e1, e2, ⟨_, _, _, _, e3.step hB⟩, fun h => (e4 h).step hB⟩
theorem SbxL3.nine {B4 AS : Nat} {x y u vv a b c d : Int} {lz : Array Bool} {az : Act} {W : World} (h : SbxL3 B4 AS x y u vv a b c d lz az W) (hn : lz.getD 14 true = false) {gz : Nat} (hs : 10 < az.tmps.size) (hz : B4 ≤ gz) (hb : Blk W gz [.int .i64 0, .int .i64 0, .int .i64 0, .int .i64 0]) : SbxL3 B4 AS x y u vv a b c d (lz.setIfInBounds 14 true) (az.put (some 10) (.pointer (some ⟨gz, 0, none⟩))) W := by
  obtain ⟨h2, h3⟩ := h
  have hn' : lz.getD 14 false = false := getD_listedX hn
  refine ⟨fun hl => ?_, fun _ => ⟨gz, put_getD_same hs, hz, ⟨_, _, _, _, hb⟩, fun hl => ?_⟩⟩
  · rw [getD_set_ne false (by decide)] at hl
    rw [h2 hl] at hn'
    cases hn'
  · rw [getD_set_ne false (by decide)] at hl
    rw [h2 hl] at hn'
    cases hn'
theorem SbxL3.ten {B4 AS : Nat} {x y u vv a b c d : Int} {lz : Array Bool} {az : Act} {W W2 : World} (_ : SbxL3 B4 AS x y u vv a b c d lz az W) (h9 : lz.getD 14 false = true) {gz : Nat} (e1 : az.tmps.getD 10 undef = .pointer (some ⟨gz, 0, none⟩)) (e2 : B4 ≤ gz) (hb : Blk W2 gz [.int .i64 a, .int .i64 b, .int .i64 c, .int .i64 d]) : SbxL3 B4 AS x y u vv a b c d (lz.setIfInBounds 15 true) az W2 := by
  refine ⟨fun _ => ?_, fun _ => ⟨gz, e1, e2, ⟨_, _, _, _, hb⟩, fun _ => hb⟩⟩
  rw [getD_set_ne false (by decide)]; exact h9

def JbxL3 (B4 AS : Nat) (x y u vv a b c d : Int) (w0 : World) (a0 : Act) (lz : Array Bool) (az : Act) (W : World) : Prop := InvQ (w0.heap.size) [some 108, some 109, some 110, some 111, some 112, some 113, some 114, some 115, some 116, some 117, some 118, some 107, some 119, some 120, some 10, none, some 11] (VbxL3 B4 AS x y u vv a b c d (w0.heap.size)) w0 a0 lz az W ∧ SbxL3 B4 AS x y u vv a b c d lz az W
set_option maxRecDepth 100000 in
set_option maxHeartbeats 4000000 in
theorem bxL3 {Q : Exit → Act → World → Prop} {B4 AS : Nat} {x y u vv a b c d : Int}  {w0 : World} {a0 : Act} {idq : Nat} {t0 t1 t2 t3 t4 t5 t6 t7 t8 t9 t10 t11 t12 t13 t14 t15 t16 : TypeId} {q0 q1 q2 q3 q4 q5 q6 q7 q8 q9 q10 q11 q12 q13 q14 q15 q16 : String}
    (hB4 : B4 = w0.heap.size) (hN : ∀ w, Calls Try.prog 10 #[.agg #[.int .i64 x, .int .i64 y], .agg #[.int .i64 u, .int .i64 vv]] w (VP (.tuple #[.agg #[.int .i64 a, .int .i64 b, .int .i64 c, .int .i64 d], .bool true]) w)) (h8 : a0.tmps[8]? = some (.slice (some ⟨AS, 0, none⟩) 4 4)) (h9 : a0.tmps[9]? = some (.int .i64 3)) (k0 : w0.cell? ⟨AS, 6, none⟩ = some (.int .i64 x)) (l0 : (⟨AS, 6, none⟩ : Addr).block < w0.heap.size) (k1 : w0.cell? ⟨AS, 7, none⟩ = some (.int .i64 y)) (l1 : (⟨AS, 7, none⟩ : Addr).block < w0.heap.size) (k2 : w0.cell? ⟨AS, 0, none⟩ = some (.int .i64 u)) (l2 : (⟨AS, 0, none⟩ : Addr).block < w0.heap.size) (k3 : w0.cell? ⟨AS, 1, none⟩ = some (.int .i64 vv)) (l3 : (⟨AS, 1, none⟩ : Addr).block < w0.heap.size) (hz : a0.tmps.size = 172)
    (hQ : ∀ aq W, aq.tmps.size = a0.tmps.size → aq.defers = a0.defers → (∀ e, e ∉ ([108, 109, 110, 111, 112, 113, 114, 115, 116, 117, 118, 107, 119, 120, 10, 11] : List Nat) → aq.tmps[e]? = a0.tmps[e]?) → VbxL3 B4 AS x y u vv a b c d (w0.heap.size) 15 undef W → VbxL3 B4 AS x y u vv a b c d (w0.heap.size) 16 (aq.tmps.getD 11 undef) W → Below (w0.heap.size) w0 W → (∃ gz, aq.tmps.getD 10 undef = .pointer (some ⟨gz, 0, none⟩) ∧ w0.heap.size ≤ gz ∧ Blk W gz [.int .i64 a, .int .i64 b, .int .i64 c, .int .i64 d]) → Q .normal aq W) :
    (Code.region idq #[{ dst := some 108, op := Op.move (Operand.tmp 8), type := t0, pos := q0, after := #[], guard := none },
    { dst := some 109, op := Op.move (Operand.tmp 9), type := t1, pos := q1, after := #[], guard := none },
    { dst := some 110, op := Op.indexAddr 33 (Operand.tmp 108) (Operand.tmp 109), type := t2, pos := q2, after := #[{ on := 0, ground := Ground.data }, { on := 1, ground := Ground.data }], guard := none },
    { dst := some 111, op := Op.load 25 (Operand.tmp 110), type := t3, pos := q3, after := #[{ on := 2, ground := Ground.data }], guard := none },
    { dst := some 112, op := Op.move (Operand.tmp 8), type := t4, pos := q4, after := #[], guard := none },
    { dst := some 113, op := Op.move (Operand.tmp 9), type := t5, pos := q5, after := #[], guard := none },
    { dst := some 114, op := Op.binOp BinOp.add 3 (Operand.tmp 113) (Operand.const (Value.int IntKind.i64 1)) 3, type := t6, pos := q6, after := #[{ on := 5, ground := Ground.data }], guard := none },
    { dst := some 115, op := Op.binOp BinOp.rem 3 (Operand.tmp 114) (Operand.const (Value.int IntKind.i64 4)) 3, type := t7, pos := q7, after := #[{ on := 6, ground := Ground.data }], guard := none },
    { dst := some 116, op := Op.indexAddr 33 (Operand.tmp 112) (Operand.tmp 115), type := t8, pos := q8, after := #[{ on := 4, ground := Ground.data }, { on := 7, ground := Ground.data }], guard := none },
    { dst := some 117, op := Op.load 25 (Operand.tmp 116), type := t9, pos := q9, after := #[{ on := 8, ground := Ground.data }], guard := none },
    { dst := some 118, op := Op.call { callee := Callee.value (Operand.func 10), args := #[Operand.tmp 111, Operand.tmp 117], argTypes := #[25, 25] }, type := t10, pos := q10, after := #[{ on := 3, ground := Ground.data }, { on := 9, ground := Ground.data }], guard := none },
    { dst := some 107, op := Op.move (Operand.tmp 118), type := t11, pos := q11, after := #[{ on := 10, ground := Ground.data }], guard := none },
    { dst := some 119, op := Op.extract (Operand.tmp 107) 0, type := t12, pos := q12, after := #[{ on := 11, ground := Ground.data }], guard := none },
    { dst := some 120, op := Op.extract (Operand.tmp 107) 1, type := t13, pos := q13, after := #[{ on := 11, ground := Ground.data }, { on := 15, ground := Ground.gcOnly Departure.lateStores }], guard := none },
    { dst := some 10, op := Op.alloc 27, type := t14, pos := q14, after := #[], guard := none },
    { dst := none, op := Op.store 27 (Operand.tmp 10) (Operand.tmp 119), type := t15, pos := q15, after := #[{ on := 14, ground := Ground.data }, { on := 12, ground := Ground.data }, { on := 10, ground := Ground.chain }, { on := 0, ground := Ground.phase }, { on := 1, ground := Ground.phase }, { on := 2, ground := Ground.phase }, { on := 3, ground := Ground.phase }, { on := 4, ground := Ground.phase }, { on := 5, ground := Ground.phase }, { on := 6, ground := Ground.phase }, { on := 7, ground := Ground.phase }, { on := 8, ground := Ground.phase }, { on := 9, ground := Ground.phase }, { on := 10, ground := Ground.phase }, { on := 11, ground := Ground.phase }, { on := 12, ground := Ground.phase }, { on := 13, ground := Ground.textOnly Departure.lateStores }, { on := 14, ground := Ground.phase }], guard := none },
    { dst := some 11, op := Op.assign (Operand.tmp 120), type := t16, pos := q16, after := #[{ on := 13, ground := Ground.data }, { on := 15, ground := Ground.chain }, { on := 0, ground := Ground.phase }, { on := 1, ground := Ground.phase }, { on := 2, ground := Ground.phase }, { on := 3, ground := Ground.phase }, { on := 4, ground := Ground.phase }, { on := 5, ground := Ground.phase }, { on := 6, ground := Ground.phase }, { on := 7, ground := Ground.phase }, { on := 8, ground := Ground.phase }, { on := 9, ground := Ground.phase }, { on := 10, ground := Ground.phase }, { on := 11, ground := Ground.phase }, { on := 12, ground := Ground.phase }, { on := 13, ground := Ground.phase }, { on := 14, ground := Ground.phase }, { on := 15, ground := Ground.phase }], guard := none }] true).wp Try.prog Q a0 w0 := by
  have hS : distS [some 108, some 109, some 110, some 111, some 112, some 113, some 114, some 115, some 116, some 117, some 118, some 107, some 119, some 120, some 10, none, some 11] = true := rfl
  refine wp_region_inv (by kernel_rfl) (JbxL3 B4 AS x y u vv a b c d w0 a0) ⟨⟨rfl, rfl, rfl, fun _ _ => rfl, (Below.refl _ w0).drew, fun j d hj => ?_, fun j hj => ?_⟩, ⟨fun h => by exfalso; rw [Array.getD_eq_getD_getElem?, Array.getElem?_replicate] at h; split at h <;> simp at h, fun h => by exfalso; rw [Array.getD_eq_getD_getElem?, Array.getElem?_replicate] at h; split at h <;> simp at h⟩⟩ ?_ ?_
  · exfalso
    rw [Array.getD_eq_getD_getElem?, Array.getElem?_replicate] at hj
    split at hj <;> simp at hj
  · exfalso
    rw [Array.getD_eq_getD_getElem?, Array.getElem?_replicate] at hj
    split at hj <;> simp at hj
  · intro lq aq W iq oq ⟨hJ, hs⟩ hl ho hall
    have hJ2 := hJ
    obtain ⟨z1, z2, z3, z4, z5, z6, z7⟩ := hJ
    have g8 : aq.tmps.getD 8 undef = .slice (some ⟨AS, 0, none⟩) 4 4 := by rw [Array.getD_eq_getD_getElem?, z4 8 (by decide), h8]; rfl
    have g9 : aq.tmps.getD 9 undef = .int .i64 3 := by rw [Array.getD_eq_getD_getElem?, z4 9 (by decide), h9]; rfl
    have c0 : W.cell? ⟨AS, 6, none⟩ = some (.int .i64 x) := (z5.cell l0).trans k0
    have c1 : W.cell? ⟨AS, 7, none⟩ = some (.int .i64 y) := (z5.cell l1).trans k1
    have c2 : W.cell? ⟨AS, 0, none⟩ = some (.int .i64 u) := (z5.cell l2).trans k2
    have c3 : W.cell? ⟨AS, 1, none⟩ = some (.int .i64 vv) := (z5.cell l3).trans k3
    match iq, ho with
    | 0, ho =>
      cases ho
      refine wpOp_of rfl rfl ?_
      have hK := fun (v : Value) (W2 : World) hW hT hv (hs : SbxL3 B4 AS x y u vv a b c d (lq.setIfInBounds 0 true) (aq.put (some 108) v) W2) => show (JbxL3 B4 AS x y u vv a b c d w0 a0) (lq.setIfInBounds 0 true) (aq.put (some 108) v) W2 from ⟨hJ2.put hS 0 108 rfl (by omega) (W' := W2) hW hT v hv, hs⟩
      clear ho hall hl hQ
      generalize (JbxL3 B4 AS x y u vv a b c d w0 a0) (lq.setIfInBounds 0 true) = K at hK ⊢
      clear hJ2 hS z1 z2 z3 z4 z6 z7
      go_simp
      exact hK _ _ z5 (fun _ _ h => h) rfl (hs.quiet 0 108 _ (by decide) (by decide))
    | 1, ho =>
      cases ho
      refine wpOp_of rfl rfl ?_
      have hK := fun (v : Value) (W2 : World) hW hT hv (hs : SbxL3 B4 AS x y u vv a b c d (lq.setIfInBounds 1 true) (aq.put (some 109) v) W2) => show (JbxL3 B4 AS x y u vv a b c d w0 a0) (lq.setIfInBounds 1 true) (aq.put (some 109) v) W2 from ⟨hJ2.put hS 1 109 rfl (by omega) (W' := W2) hW hT v hv, hs⟩
      clear ho hall hl hQ
      generalize (JbxL3 B4 AS x y u vv a b c d w0 a0) (lq.setIfInBounds 1 true) = K at hK ⊢
      clear hJ2 hS z1 z2 z3 z4 z6 z7
      go_simp
      exact hK _ _ z5 (fun _ _ h => h) rfl (hs.quiet 1 109 _ (by decide) (by decide))
    | 2, ho =>
      cases ho
      refine wpOp_of rfl rfl ?_
      have f0 : (aq.tmps.getD 108 undef) = .slice (some ⟨AS, 0, none⟩) 4 4 := z6 0 108 (hall { on := 0, ground := Ground.data } (by simp) rfl) rfl
      have f1 : (aq.tmps.getD 109 undef) = .int .i64 3 := z6 1 109 (hall { on := 1, ground := Ground.data } (by simp) rfl) rfl
      have hK := fun (v : Value) (W2 : World) hW hT hv (hs : SbxL3 B4 AS x y u vv a b c d (lq.setIfInBounds 2 true) (aq.put (some 110) v) W2) => show (JbxL3 B4 AS x y u vv a b c d w0 a0) (lq.setIfInBounds 2 true) (aq.put (some 110) v) W2 from ⟨hJ2.put hS 2 110 rfl (by omega) (W' := W2) hW hT v hv, hs⟩
      clear ho hall hl hQ
      generalize (JbxL3 B4 AS x y u vv a b c d w0 a0) (lq.setIfInBounds 2 true) = K at hK ⊢
      clear hJ2 hS z1 z2 z3 z4 z6 z7
      go_simp
      exact hK _ _ z5 (fun _ _ h => h) rfl (hs.quiet 2 110 _ (by decide) (by decide))
    | 3, ho =>
      cases ho
      refine wpOp_of rfl rfl ?_
      have f2 : (aq.tmps.getD 110 undef) = .pointer (some ⟨AS, 6, none⟩) := z6 2 110 (hall { on := 2, ground := Ground.data } (by simp) rfl) rfl
      have hK := fun (v : Value) (W2 : World) hW hT hv (hs : SbxL3 B4 AS x y u vv a b c d (lq.setIfInBounds 3 true) (aq.put (some 111) v) W2) => show (JbxL3 B4 AS x y u vv a b c d w0 a0) (lq.setIfInBounds 3 true) (aq.put (some 111) v) W2 from ⟨hJ2.put hS 3 111 rfl (by omega) (W' := W2) hW hT v hv, hs⟩
      clear ho hall hl hQ
      generalize (JbxL3 B4 AS x y u vv a b c d w0 a0) (lq.setIfInBounds 3 true) = K at hK ⊢
      clear hJ2 hS z1 z2 z3 z4 z6 z7
      go_simp
      exact hK _ _ z5 (fun _ _ h => h) rfl (hs.quiet 3 111 _ (by decide) (by decide))
    | 4, ho =>
      cases ho
      refine wpOp_of rfl rfl ?_
      have hK := fun (v : Value) (W2 : World) hW hT hv (hs : SbxL3 B4 AS x y u vv a b c d (lq.setIfInBounds 4 true) (aq.put (some 112) v) W2) => show (JbxL3 B4 AS x y u vv a b c d w0 a0) (lq.setIfInBounds 4 true) (aq.put (some 112) v) W2 from ⟨hJ2.put hS 4 112 rfl (by omega) (W' := W2) hW hT v hv, hs⟩
      clear ho hall hl hQ
      generalize (JbxL3 B4 AS x y u vv a b c d w0 a0) (lq.setIfInBounds 4 true) = K at hK ⊢
      clear hJ2 hS z1 z2 z3 z4 z6 z7
      go_simp
      exact hK _ _ z5 (fun _ _ h => h) rfl (hs.quiet 4 112 _ (by decide) (by decide))
    | 5, ho =>
      cases ho
      refine wpOp_of rfl rfl ?_
      have hK := fun (v : Value) (W2 : World) hW hT hv (hs : SbxL3 B4 AS x y u vv a b c d (lq.setIfInBounds 5 true) (aq.put (some 113) v) W2) => show (JbxL3 B4 AS x y u vv a b c d w0 a0) (lq.setIfInBounds 5 true) (aq.put (some 113) v) W2 from ⟨hJ2.put hS 5 113 rfl (by omega) (W' := W2) hW hT v hv, hs⟩
      clear ho hall hl hQ
      generalize (JbxL3 B4 AS x y u vv a b c d w0 a0) (lq.setIfInBounds 5 true) = K at hK ⊢
      clear hJ2 hS z1 z2 z3 z4 z6 z7
      go_simp
      exact hK _ _ z5 (fun _ _ h => h) rfl (hs.quiet 5 113 _ (by decide) (by decide))
    | 6, ho =>
      cases ho
      refine wpOp_of rfl rfl ?_
      have f5 : (aq.tmps.getD 113 undef) = .int .i64 3 := z6 5 113 (hall { on := 5, ground := Ground.data } (by simp) rfl) rfl
      have hK := fun (v : Value) (W2 : World) hW hT hv (hs : SbxL3 B4 AS x y u vv a b c d (lq.setIfInBounds 6 true) (aq.put (some 114) v) W2) => show (JbxL3 B4 AS x y u vv a b c d w0 a0) (lq.setIfInBounds 6 true) (aq.put (some 114) v) W2 from ⟨hJ2.put hS 6 114 rfl (by omega) (W' := W2) hW hT v hv, hs⟩
      clear ho hall hl hQ
      generalize (JbxL3 B4 AS x y u vv a b c d w0 a0) (lq.setIfInBounds 6 true) = K at hK ⊢
      clear hJ2 hS z1 z2 z3 z4 z6 z7
      go_simp
      exact hK _ _ z5 (fun _ _ h => h) rfl (hs.quiet 6 114 _ (by decide) (by decide))
    | 7, ho =>
      cases ho
      refine wpOp_of rfl rfl ?_
      have f6 : (aq.tmps.getD 114 undef) = .int .i64 4 := z6 6 114 (hall { on := 6, ground := Ground.data } (by simp) rfl) rfl
      have hK := fun (v : Value) (W2 : World) hW hT hv (hs : SbxL3 B4 AS x y u vv a b c d (lq.setIfInBounds 7 true) (aq.put (some 115) v) W2) => show (JbxL3 B4 AS x y u vv a b c d w0 a0) (lq.setIfInBounds 7 true) (aq.put (some 115) v) W2 from ⟨hJ2.put hS 7 115 rfl (by omega) (W' := W2) hW hT v hv, hs⟩
      clear ho hall hl hQ
      generalize (JbxL3 B4 AS x y u vv a b c d w0 a0) (lq.setIfInBounds 7 true) = K at hK ⊢
      clear hJ2 hS z1 z2 z3 z4 z6 z7
      go_simp
      exact hK _ _ z5 (fun _ _ h => h) rfl (hs.quiet 7 115 _ (by decide) (by decide))
    | 8, ho =>
      cases ho
      refine wpOp_of rfl rfl ?_
      have f4 : (aq.tmps.getD 112 undef) = .slice (some ⟨AS, 0, none⟩) 4 4 := z6 4 112 (hall { on := 4, ground := Ground.data } (by simp) rfl) rfl
      have f7 : (aq.tmps.getD 115 undef) = .int .i64 0 := z6 7 115 (hall { on := 7, ground := Ground.data } (by simp) rfl) rfl
      have hK := fun (v : Value) (W2 : World) hW hT hv (hs : SbxL3 B4 AS x y u vv a b c d (lq.setIfInBounds 8 true) (aq.put (some 116) v) W2) => show (JbxL3 B4 AS x y u vv a b c d w0 a0) (lq.setIfInBounds 8 true) (aq.put (some 116) v) W2 from ⟨hJ2.put hS 8 116 rfl (by omega) (W' := W2) hW hT v hv, hs⟩
      clear ho hall hl hQ
      generalize (JbxL3 B4 AS x y u vv a b c d w0 a0) (lq.setIfInBounds 8 true) = K at hK ⊢
      clear hJ2 hS z1 z2 z3 z4 z6 z7
      go_simp
      exact hK _ _ z5 (fun _ _ h => h) rfl (hs.quiet 8 116 _ (by decide) (by decide))
    | 9, ho =>
      cases ho
      refine wpOp_of rfl rfl ?_
      have f8 : (aq.tmps.getD 116 undef) = .pointer (some ⟨AS, 0, none⟩) := z6 8 116 (hall { on := 8, ground := Ground.data } (by simp) rfl) rfl
      have hK := fun (v : Value) (W2 : World) hW hT hv (hs : SbxL3 B4 AS x y u vv a b c d (lq.setIfInBounds 9 true) (aq.put (some 117) v) W2) => show (JbxL3 B4 AS x y u vv a b c d w0 a0) (lq.setIfInBounds 9 true) (aq.put (some 117) v) W2 from ⟨hJ2.put hS 9 117 rfl (by omega) (W' := W2) hW hT v hv, hs⟩
      clear ho hall hl hQ
      generalize (JbxL3 B4 AS x y u vv a b c d w0 a0) (lq.setIfInBounds 9 true) = K at hK ⊢
      clear hJ2 hS z1 z2 z3 z4 z6 z7
      go_simp
      exact hK _ _ z5 (fun _ _ h => h) rfl (hs.quiet 9 117 _ (by decide) (by decide))
    | 10, ho =>
      cases ho
      refine wpOp_of rfl rfl ?_
      have f3 : (aq.tmps.getD 111 undef) = .agg #[.int .i64 x, .int .i64 y] := z6 3 111 (hall { on := 3, ground := Ground.data } (by simp) rfl) rfl
      have f9 : (aq.tmps.getD 117 undef) = .agg #[.int .i64 u, .int .i64 vv] := z6 9 117 (hall { on := 9, ground := Ground.data } (by simp) rfl) rfl
      have hK := fun (v : Value) (W2 : World) hW hT hv (hs : SbxL3 B4 AS x y u vv a b c d (lq.setIfInBounds 10 true) (aq.put (some 118) v) W2) => show (JbxL3 B4 AS x y u vv a b c d w0 a0) (lq.setIfInBounds 10 true) (aq.put (some 118) v) W2 from ⟨hJ2.put hS 10 118 rfl (by omega) (W' := W2) hW hT v hv, hs⟩
      clear ho hall hl hQ
      generalize (JbxL3 B4 AS x y u vv a b c d w0 a0) (lq.setIfInBounds 10 true) = K at hK ⊢
      clear hJ2 hS z1 z2 z3 z4 z6 z7
      go_simp
      refine (hN W).mono ?_
      rintro e v1 ⟨rfl, hBv⟩
      exact hK _ _ (z5.trans (hBv.mono z5.size)) (fun _ _ h => h.mono hBv) rfl ((hs.step hBv).quiet 10 118 _ (by decide) (by decide))
    | 11, ho =>
      cases ho
      refine wpOp_of rfl rfl ?_
      have f10 : (aq.tmps.getD 118 undef) = .tuple #[.agg #[.int .i64 a, .int .i64 b, .int .i64 c, .int .i64 d], .bool true] := z6 10 118 (hall { on := 10, ground := Ground.data } (by simp) rfl) rfl
      have hK := fun (v : Value) (W2 : World) hW hT hv (hs : SbxL3 B4 AS x y u vv a b c d (lq.setIfInBounds 11 true) (aq.put (some 107) v) W2) => show (JbxL3 B4 AS x y u vv a b c d w0 a0) (lq.setIfInBounds 11 true) (aq.put (some 107) v) W2 from ⟨hJ2.put hS 11 107 rfl (by omega) (W' := W2) hW hT v hv, hs⟩
      clear ho hall hl hQ
      generalize (JbxL3 B4 AS x y u vv a b c d w0 a0) (lq.setIfInBounds 11 true) = K at hK ⊢
      clear hJ2 hS z1 z2 z3 z4 z6 z7
      go_simp
      exact hK _ _ z5 (fun _ _ h => h) rfl (hs.quiet 11 107 _ (by decide) (by decide))
    | 12, ho =>
      cases ho
      refine wpOp_of rfl rfl ?_
      have f11 : (aq.tmps.getD 107 undef) = .tuple #[.agg #[.int .i64 a, .int .i64 b, .int .i64 c, .int .i64 d], .bool true] := z6 11 107 (hall { on := 11, ground := Ground.data } (by simp) rfl) rfl
      have hK := fun (v : Value) (W2 : World) hW hT hv (hs : SbxL3 B4 AS x y u vv a b c d (lq.setIfInBounds 12 true) (aq.put (some 119) v) W2) => show (JbxL3 B4 AS x y u vv a b c d w0 a0) (lq.setIfInBounds 12 true) (aq.put (some 119) v) W2 from ⟨hJ2.put hS 12 119 rfl (by omega) (W' := W2) hW hT v hv, hs⟩
      clear ho hall hl hQ
      generalize (JbxL3 B4 AS x y u vv a b c d w0 a0) (lq.setIfInBounds 12 true) = K at hK ⊢
      clear hJ2 hS z1 z2 z3 z4 z6 z7
      go_simp
      exact hK _ _ z5 (fun _ _ h => h) rfl (hs.quiet 12 119 _ (by decide) (by decide))
    | 13, ho =>
      cases ho
      refine wpOp_of rfl rfl ?_
      have f11 : (aq.tmps.getD 107 undef) = .tuple #[.agg #[.int .i64 a, .int .i64 b, .int .i64 c, .int .i64 d], .bool true] := z6 11 107 (hall { on := 11, ground := Ground.data } (by simp) rfl) rfl
      have hK := fun (v : Value) (W2 : World) hW hT hv (hs : SbxL3 B4 AS x y u vv a b c d (lq.setIfInBounds 13 true) (aq.put (some 120) v) W2) => show (JbxL3 B4 AS x y u vv a b c d w0 a0) (lq.setIfInBounds 13 true) (aq.put (some 120) v) W2 from ⟨hJ2.put hS 13 120 rfl (by omega) (W' := W2) hW hT v hv, hs⟩
      clear ho hall hl hQ
      generalize (JbxL3 B4 AS x y u vv a b c d w0 a0) (lq.setIfInBounds 13 true) = K at hK ⊢
      clear hJ2 hS z1 z2 z3 z4 z6 z7
      go_simp
      exact hK _ _ z5 (fun _ _ h => h) rfl (hs.quiet 13 120 _ (by decide) (by decide))
    | 14, ho =>
      cases ho
      refine wpOp_of rfl rfl ?_
      have hl9 := hl
      have hsz : 10 < aq.tmps.size := by omega
      have hK := fun (v : Value) (W2 : World) hW hT hv (hs : SbxL3 B4 AS x y u vv a b c d (lq.setIfInBounds 14 true) (aq.put (some 10) v) W2) => show (JbxL3 B4 AS x y u vv a b c d w0 a0) (lq.setIfInBounds 14 true) (aq.put (some 10) v) W2 from ⟨hJ2.put hS 14 10 rfl (by omega) (W' := W2) hW hT v hv, hs⟩
      clear ho hall hl hQ
      generalize (JbxL3 B4 AS x y u vv a b c d w0 a0) (lq.setIfInBounds 14 true) = K at hK ⊢
      clear hJ2 hS z1 z2 z3 z4 z6 z7
      go_simp
      exact hK _ _ (z5.alloc z5.size _) (fun _ _ h => h.mono ((Below.refl _ _).alloc (Nat.le_refl _) _)) trivial ((hs.step ((Below.refl _ _).alloc (Nat.le_refl _) _)).nine hl9 hsz (by have := z5.size; omega) (Blk.new W [.int .i64 0, .int .i64 0, .int .i64 0, .int .i64 0] _ rfl))
    | 15, ho =>
      cases ho
      refine wpOp_of rfl rfl ?_
      have f14 : True := z6 14 10 (hall { on := 14, ground := Ground.data } (by simp) rfl) rfl
      have f12 : (aq.tmps.getD 119 undef) = .agg #[.int .i64 a, .int .i64 b, .int .i64 c, .int .i64 d] := z6 12 119 (hall { on := 12, ground := Ground.data } (by simp) rfl) rfl
      have l9 : lq.getD 14 false = true := hall { on := 14, ground := Ground.data } (by simp) rfl
      have hK := fun (W2 : World) hW hT hv (hs : SbxL3 B4 AS x y u vv a b c d (lq.setIfInBounds 15 true) aq W2) => show (JbxL3 B4 AS x y u vv a b c d w0 a0) (lq.setIfInBounds 15 true) aq W2 from ⟨hJ2.world 15 rfl (W' := W2) hW hT hv, hs⟩
      clear ho hall hl hQ
      generalize (JbxL3 B4 AS x y u vv a b c d w0 a0) (lq.setIfInBounds 15 true) = K at hK ⊢
      clear hJ2 hS z1 z2 z3 z4 z6 z7
      obtain ⟨gz, e7, hgz, ⟨z0q, z1q, z2q, z3q, GZ⟩, _⟩ := hs.2 l9
      have gl := GZ.lt
      have c0z := GZ.c 0 rfl; have d0z := GZ.f 0 rfl; have c1z := GZ.c 1 rfl; have d1z := GZ.f 1 rfl; have c2z := GZ.c 2 rfl; have d2z := GZ.f 2 rfl; have c3z := GZ.c 3 rfl; have d3z := GZ.f 3 rfl
      have NB : Blk ((((W.setCell ⟨gz, 0, none⟩ (.int .i64 a)).setCell ⟨gz, 1, none⟩ (.int .i64 b)).setCell ⟨gz, 2, none⟩ (.int .i64 c)).setCell ⟨gz, 3, none⟩ (.int .i64 d)) gz [.int .i64 a, .int .i64 b, .int .i64 c, .int .i64 d] := ((((GZ.setI 0 (by simp) _).setI 1 (by simp) _).setI 2 (by simp) _).setI 3 (by simp) _)
      have hgw : w0.heap.size ≤ gz := by omega
      have NL : Below w0.heap.size w0 ((((W.setCell ⟨gz, 0, none⟩ (.int .i64 a)).setCell ⟨gz, 1, none⟩ (.int .i64 b)).setCell ⟨gz, 2, none⟩ (.int .i64 c)).setCell ⟨gz, 3, none⟩ (.int .i64 d)) := ((((z5.setCell (p := ⟨gz, 0, none⟩) hgw _).setCell (p := ⟨gz, 1, none⟩) hgw _).setCell (p := ⟨gz, 2, none⟩) hgw _).setCell (p := ⟨gz, 3, none⟩) hgw _)
      have HS := hs.ten l9 e7 hgz NB
      clear GZ NB hs
      go_simp
      exact hK _ NL (fun j v h => VbxL3.same h) trivial HS
    | 16, ho =>
      cases ho
      refine wpOp_of rfl rfl ?_
      have f13 : (aq.tmps.getD 120 undef) = .bool true := z6 13 120 (hall { on := 13, ground := Ground.data } (by simp) rfl) rfl
      have hK := fun (v : Value) (W2 : World) hW hT hv (hs : SbxL3 B4 AS x y u vv a b c d (lq.setIfInBounds 16 true) (aq.put (some 11) v) W2) => show (JbxL3 B4 AS x y u vv a b c d w0 a0) (lq.setIfInBounds 16 true) (aq.put (some 11) v) W2 from ⟨hJ2.put hS 16 11 rfl (by omega) (W' := W2) hW hT v hv, hs⟩
      clear ho hall hl hQ
      generalize (JbxL3 B4 AS x y u vv a b c d w0 a0) (lq.setIfInBounds 16 true) = K at hK ⊢
      clear hJ2 hS z1 z2 z3 z4 z6 z7
      go_simp
      exact hK _ _ z5 (fun _ _ h => h) rfl (hs.quiet 16 11 _ (by decide) (by decide))
    | iq + 17, ho => simp at ho
  · intro lq aq W ⟨hJ, hs⟩ hr
    obtain ⟨z1, z2, z3, z4, z5, z6, z7⟩ := hJ
    have hl := listed_of hr [14, 0, 1, 2, 3, 4, 5, 6, 7, 8, 9, 10, 11, 12, 15, 13, 16] [] (by simp) (by kernel_rfl) (by rw [z1]; decide)
    exact hQ aq W z2 z3 (fun e he => z4 e (by simpa using he)) (z7 15 (hl 15 (by simp)) rfl) (z6 16 11 (hl 16 (by simp)) rfl) z5 (by obtain ⟨gz, e1, e2, _, e4⟩ := hs.2 (hl 14 (by simp)); exact ⟨gz, e1, by omega, e4 (hl 15 (by simp))⟩)
end Go.Proofs.Ytpnnpkchogooaaa
