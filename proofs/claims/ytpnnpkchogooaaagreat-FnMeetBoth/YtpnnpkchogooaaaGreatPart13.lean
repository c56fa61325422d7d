/- Part 13 of the walks that the proof leans on. -/
import Derived.Test.YtpnnpkchogooaaaGreatPart12
set_option maxRecDepth 100000
set_option maxHeartbeats 8000000
namespace Go.Proofs.YtpnnpkchogooaaaGreat
open Go.RowKit
theorem segOf_I (x y u v : Int) (hx : I64 x) (hy : I64 y) (hu : I64 u) (hv : I64 v) (w : World) : Calls Tryz.prog 50 #[.agg #[.int .i64 x, .int .i64 y], .agg #[.int .i64 u, .int .i64 v]] w (fun e w' => ∃ (a b c d : Int) (k : Bool), e = .returned (.tuple #[.agg #[.int .i64 a, .int .i64 b, .int .i64 c, .int .i64 d], .bool k]) ∧ I64 a ∧ I64 b ∧ I64 c ∧ I64 d ∧ Below w.heap.size w w') := by
 obtain ⟨a, b, c, d, k, ia, ib, ic, id, CS⟩ := segOf_ex x y u v hx hy hu hv
 exact (CS w).mono fun e w' ⟨he, hB⟩ => ⟨a, b, c, d, k, he, ia, ib, ic, id, hB⟩
theorem wrap_m (z : Int) : I64 (wrap64 z) := by
 unfold wrap64
 constructor <;> omega
def VmbA (_R0 _R1 A5 _A6 G : Nat) (_ao : Option Addr) (_n _cap : Nat) (_cs : List Int) (_a _b c d : Int) (_B : Nat) : Nat → Value → World → Prop
 | 0, v, _ => v = .pointer (some ⟨A5, 2, none⟩)
 | 1, v, _ => v = .agg #[.int .i64 c, .int .i64 d]
 | 2, v, _ => v = .pointer (some ⟨G, 0, none⟩)
 | 3, v, _ => ∃ x y : Int, v = .agg #[.int .i64 x, .int .i64 y] ∧ I64 x ∧ I64 y
 | 4, v, _ => ∃ x0 x1 x2 x3 : Int, ∃ k : Bool, v = .tuple #[.agg #[.int .i64 x0, .int .i64 x1, .int .i64 x2, .int .i64 x3], .bool k] ∧ I64 x0 ∧ I64 x1 ∧ I64 x2 ∧ I64 x3
 | 5, v, _ => ∃ x0 x1 x2 x3 : Int, ∃ k : Bool, v = .tuple #[.agg #[.int .i64 x0, .int .i64 x1, .int .i64 x2, .int .i64 x3], .bool k] ∧ I64 x0 ∧ I64 x1 ∧ I64 x2 ∧ I64 x3
 | 6, v, _ => ∃ x0 x1 x2 x3 : Int, v = .agg #[.int .i64 x0, .int .i64 x1, .int .i64 x2, .int .i64 x3] ∧ I64 x0 ∧ I64 x1 ∧ I64 x2 ∧ I64 x3
 | _, _, _ => True
theorem VmbA.same {R0 R1 A5 A6 G : Nat} {ao : Option Addr} {n cap : Nat} {cs : List Int} {a b c d : Int} {B j : Nat} {v : Value} {W W2 : World} (h : VmbA R0 R1 A5 A6 G ao n cap cs a b c d B j v W) : VmbA R0 R1 A5 A6 G ao n cap cs a b c d B j v W2 := by
 unfold VmbA at *
 split <;> simp only at h <;> first | exact h | trivial
def SmbA (R0 R1 A5 A6 G : Nat) (ao : Option Addr) (n cap : Nat) (cs : List Int) (a b c d : Int) (W : World) : Prop := Rdr W G ao n cap cs ∧ Blk W A5 [.int .i64 a, .int .i64 b, .int .i64 c, .int .i64 d] ∧ Blk W R0 [.int .i64 0, .int .i64 0, .int .i64 0, .int .i64 0] ∧ Blk W R1 [.int .i64 0, .int .i64 0, .int .i64 0, .int .i64 0] ∧ ∃ e0 e1 e2 e3 : Int, I64 e0 ∧ I64 e1 ∧ I64 e2 ∧ I64 e3 ∧ Blk W A6 [.int .i64 e0, .int .i64 e1, .int .i64 e2, .int .i64 e3]
def JmbA (R0 R1 A5 A6 G : Nat) (ao : Option Addr) (n cap : Nat) (cs : List Int) (a b c d : Int) (w0 : World) (a0 : Act) (lz : Array Bool) (az : Act) (W : World) : Prop := InvQ (R0) [some 62, some 63, some 64, some 65, some 66, some 61, some 67, some 68, none] (VmbA R0 R1 A5 A6 G ao n cap cs a b c d (R0)) w0 a0 lz az W ∧ SmbA R0 R1 A5 A6 G ao n cap cs a b c d W
theorem mbA {Q : Exit → Act → World → Prop} {R0 R1 A5 A6 G : Nat} {ao : Option Addr} {n cap : Nat} {cs : List Int} {a b c d : Int}  {w0 : World} {a0 : Act} {idq : Nat} {t0 t1 t2 t3 t4 t5 t6 t7 t8 : TypeId} {q0 q1 q2 q3 q4 q5 q6 q7 q8 : String}
   (n01 : R0 < R1) (n1 : R1 < G) (n5 : G < A5) (n6 : G < A6) (n56 : A5 < A6) (hc : I64 c) (hd : I64 d) (h5 : a0.tmps[5]? = some (.pointer (some ⟨A5, 0, none⟩))) (h4 : a0.tmps[4]? = some (.pointer (some ⟨G, 0, none⟩))) (h6 : a0.tmps[6]? = some (.pointer (some ⟨A6, 0, none⟩)))  (hz : a0.tmps.size = 71) (hs0 : SmbA R0 R1 A5 A6 G ao n cap cs a b c d w0.drew)
   (hQ : ∀ aq W, aq.tmps.size = a0.tmps.size → aq.defers = a0.defers → (∀ e, e ∉ ([62, 63, 64, 65, 66, 61, 67, 68] : List Nat) → aq.tmps[e]? = a0.tmps[e]?) → Below (R0) w0 W → SmbA R0 R1 A5 A6 G ao n cap cs a b c d W → Q .normal aq W) :
   (Code.region idq #[{ dst := some 62, op := Op.fieldAddr 27 (.tmp 5) 1, type := t0, pos := q0, after := #[], guard := none },
   { dst := some 63, op := Op.load 25 (.tmp 62), type := t1, pos := q1, after := #[⟨0, .data⟩], guard := none },
   { dst := some 64, op := Op.move (.tmp 4), type := t2, pos := q2, after := #[], guard := none },
   { dst := some 65, op := Op.call { callee := Callee.value (Operand.func 26), args := #[.tmp 64], argTypes := #[56] }, type := t3, pos := q3, after := #[⟨2, .data⟩], guard := none },
   { dst := some 66, op := Op.call { callee := Callee.value (Operand.func 50), args := #[.tmp 63, .tmp 65], argTypes := #[25, 25] }, type := t4, pos := q4, after := #[⟨1, .data⟩, ⟨3, .data⟩, ⟨3, .chain⟩], guard := none },
   { dst := some 61, op := Op.move (.tmp 66), type := t5, pos := q5, after := #[⟨4, .data⟩], guard := none },
   { dst := some 67, op := Op.extract (.tmp 61) 0, type := t6, pos := q6, after := #[⟨5, .data⟩], guard := none },
   { dst := some 68, op := Op.extract (.tmp 61) 1, type := t7, pos := q7, after := #[⟨5, .data⟩, ⟨8, .gcOnly .lateStores⟩], guard := none },
   { dst := none, op := Op.store 27 (.tmp 6) (.tmp 67), type := t8, pos := q8, after := #[⟨6, .data⟩, ⟨4, .chain⟩, ⟨0, .phase⟩, ⟨1, .phase⟩, ⟨2, .phase⟩, ⟨3, .phase⟩, ⟨4, .phase⟩, ⟨5, .phase⟩, ⟨6, .phase⟩, ⟨7, .textOnly .lateStores⟩], guard := none }] true).wp Tryz.prog Q a0 w0 := by
 have hS : distS [some 62, some 63, some 64, some 65, some 66, some 61, some 67, some 68, none] = true := rfl
 refine wp_region_inv (by kernel_rfl) (JmbA R0 R1 A5 A6 G ao n cap cs a b c d w0 a0) ⟨⟨rfl, rfl, rfl, fun _ _ => rfl, (Below.refl _ w0).drew, fun j d hj => ?_, fun j hj => ?_⟩, hs0⟩ ?_ ?_
 · exfalso
   rw [Array.getD_eq_getD_getElem?, Array.getElem?_replicate] at hj
   split at hj <;> simp at hj
 · exfalso
   rw [Array.getD_eq_getD_getElem?, Array.getElem?_replicate] at hj
   split at hj <;> simp at hj
 · intro lq aq W iq oq ⟨hJ, hs⟩ hl ho hall
   have hJ2 := hJ
   obtain ⟨z1, z2, z3, z4, z5, z6, z7⟩ := hJ
   obtain ⟨xr, xa, xe, xf, e0, e1, e2, e3, j0, j1, j2, j3, xc⟩ := hs
   have ca2 := xa.c 2 rfl; have ca3 := xa.c 3 rfl
   obtain ⟨rc0, sc0, rc1, sc1, rc2, sc2, rc3, sc3⟩ := xc.cf4; have rlc := xc.lt
   have hs : SmbA R0 R1 A5 A6 G ao n cap cs a b c d W := ⟨xr, xa, xe, xf, e0, e1, e2, e3, j0, j1, j2, j3, xc⟩
   have g5 : aq.tmps.getD 5 undef = .pointer (some ⟨A5, 0, none⟩) := by rw [Array.getD_eq_getD_getElem?, z4 5 (by decide), h5]; rfl
   have g4 : aq.tmps.getD 4 undef = .pointer (some ⟨G, 0, none⟩) := by rw [Array.getD_eq_getD_getElem?, z4 4 (by decide), h4]; rfl
   have g6 : aq.tmps.getD 6 undef = .pointer (some ⟨A6, 0, none⟩) := by rw [Array.getD_eq_getD_getElem?, z4 6 (by decide), h6]; rfl
   match iq, ho with
   | 0, ho =>
     cases ho
     refine wpOp_of rfl rfl ?_
     have hK := fun (v : Value) (W2 : World) hW hT hv (hs : SmbA R0 R1 A5 A6 G ao n cap cs a b c d W2) => show (JmbA R0 R1 A5 A6 G ao n cap cs a b c d w0 a0) (lq.setIfInBounds 0 true) (aq.put (some 62) v) W2 from ⟨hJ2.put hS 0 62 rfl (by omega) (W' := W2) hW hT v hv, hs⟩
     clear ho hall hl hQ
     generalize (JmbA R0 R1 A5 A6 G ao n cap cs a b c d w0 a0) (lq.setIfInBounds 0 true) = K at hK ⊢
     clear hJ2 hS z1 z2 z3 z4 z6 z7
     go_simp
     exact hK _ _ z5 (fun _ _ h => h) rfl hs
   | 1, ho =>
     cases ho
     refine wpOp_of rfl rfl ?_
     have f0 : (aq.tmps.getD 62 undef) = .pointer (some ⟨A5, 2, none⟩) := z6 0 62 (hall ⟨0, .data⟩ (by simp) rfl) rfl
     have hK := fun (v : Value) (W2 : World) hW hT hv (hs : SmbA R0 R1 A5 A6 G ao n cap cs a b c d W2) => show (JmbA R0 R1 A5 A6 G ao n cap cs a b c d w0 a0) (lq.setIfInBounds 1 true) (aq.put (some 63) v) W2 from ⟨hJ2.put hS 1 63 rfl (by omega) (W' := W2) hW hT v hv, hs⟩
     clear ho hall hl hQ
     generalize (JmbA R0 R1 A5 A6 G ao n cap cs a b c d w0 a0) (lq.setIfInBounds 1 true) = K at hK ⊢
     clear hJ2 hS z1 z2 z3 z4 z6 z7
     go_simp
     exact hK _ _ z5 (fun _ _ h => h) rfl hs
   | 2, ho =>
     cases ho
     refine wpOp_of rfl rfl ?_
     have hK := fun (v : Value) (W2 : World) hW hT hv (hs : SmbA R0 R1 A5 A6 G ao n cap cs a b c d W2) => show (JmbA R0 R1 A5 A6 G ao n cap cs a b c d w0 a0) (lq.setIfInBounds 2 true) (aq.put (some 64) v) W2 from ⟨hJ2.put hS 2 64 rfl (by omega) (W' := W2) hW hT v hv, hs⟩
     clear ho hall hl hQ
     generalize (JmbA R0 R1 A5 A6 G ao n cap cs a b c d w0 a0) (lq.setIfInBounds 2 true) = K at hK ⊢
     clear hJ2 hS z1 z2 z3 z4 z6 z7
     go_simp
     exact hK _ _ z5 (fun _ _ h => h) rfl hs
   | 3, ho =>
     cases ho
     refine wpOp_of rfl rfl ?_
     have f2 : (aq.tmps.getD 64 undef) = .pointer (some ⟨G, 0, none⟩) := z6 2 64 (hall ⟨2, .data⟩ (by simp) rfl) rfl
     have hK := fun (v : Value) (W2 : World) hW hT hv (hs : SmbA R0 R1 A5 A6 G ao n cap cs a b c d W2) => show (JmbA R0 R1 A5 A6 G ao n cap cs a b c d w0 a0) (lq.setIfInBounds 3 true) (aq.put (some 65) v) W2 from ⟨hJ2.put hS 3 65 rfl (by omega) (W' := W2) hW hT v hv, hs⟩
     clear ho hall hl hQ
     generalize (JmbA R0 R1 A5 A6 G ao n cap cs a b c d w0 a0) (lq.setIfInBounds 3 true) = K at hK ⊢
     clear hJ2 hS z1 z2 z3 z4 z6 z7
     have rwl := xc.lt
     go_simp
     refine (spot_any G ao n cap cs _ xr).mono ?_
     rintro e v1 ⟨_, rfl, ⟨x, y, rfl, x0, x1, y0, y1⟩, xr2, hk⟩
     exact hK _ _ (z5.trans (hk.below (by omega) (by omega))) (fun _ _ h => VmbA.same h) ⟨x, y, rfl, (by constructor <;> omega), (by constructor <;> omega)⟩ ⟨xr2, xa.kept hk (by omega), xe.kept hk (by omega), xf.kept hk (by omega), e0, e1, e2, e3, j0, j1, j2, j3, xc.kept hk (by omega)⟩
   | 4, ho =>
     cases ho
     refine wpOp_of rfl rfl ?_
     have f1 : (aq.tmps.getD 63 undef) = .agg #[.int .i64 c, .int .i64 d] := z6 1 63 (hall ⟨1, .data⟩ (by simp) rfl) rfl
     have f3 : ∃ x y : Int, (aq.tmps.getD 65 undef) = .agg #[.int .i64 x, .int .i64 y] ∧ I64 x ∧ I64 y := z6 3 65 (hall ⟨3, .data⟩ (by simp) rfl) rfl
     obtain ⟨zx, zy, e5, ix, iy⟩ := f3
     have hK := fun (v : Value) (W2 : World) hW hT hv (hs : SmbA R0 R1 A5 A6 G ao n cap cs a b c d W2) => show (JmbA R0 R1 A5 A6 G ao n cap cs a b c d w0 a0) (lq.setIfInBounds 4 true) (aq.put (some 66) v) W2 from ⟨hJ2.put hS 4 66 rfl (by omega) (W' := W2) hW hT v hv, hs⟩
     clear ho hall hl hQ
     generalize (JmbA R0 R1 A5 A6 G ao n cap cs a b c d w0 a0) (lq.setIfInBounds 4 true) = K at hK ⊢
     clear hJ2 hS z1 z2 z3 z4 z6 z7
     have rwl := xc.lt
     go_simp
     refine (segOf_I c d zx zy hc hd ix iy W).mono ?_
     rintro e v1 ⟨a1, b1, c1, d1, k1, rfl, ka, kb, kc, kd, hBv⟩
     exact hK _ _ (z5.trans (hBv.mono (by omega))) (fun _ _ h => VmbA.same h) ⟨a1, b1, c1, d1, k1, rfl, ka, kb, kc, kd⟩ ⟨xr.step hBv, xa.step hBv, xe.step hBv, xf.step hBv, e0, e1, e2, e3, j0, j1, j2, j3, xc.step hBv⟩
   | 5, ho =>
     cases ho
     refine wpOp_of rfl rfl ?_
     have f4 : ∃ x0 x1 x2 x3 : Int, ∃ k : Bool, (aq.tmps.getD 66 undef) = .tuple #[.agg #[.int .i64 x0, .int .i64 x1, .int .i64 x2, .int .i64 x3], .bool k] ∧ I64 x0 ∧ I64 x1 ∧ I64 x2 ∧ I64 x3 := z6 4 66 (hall ⟨4, .data⟩ (by simp) rfl) rfl
     obtain ⟨za, zb, zc, zd, zk, ez, iza, izb, izc, izd⟩ := f4
     have hK := fun (v : Value) (W2 : World) hW hT hv (hs : SmbA R0 R1 A5 A6 G ao n cap cs a b c d W2) => show (JmbA R0 R1 A5 A6 G ao n cap cs a b c d w0 a0) (lq.setIfInBounds 5 true) (aq.put (some 61) v) W2 from ⟨hJ2.put hS 5 61 rfl (by omega) (W' := W2) hW hT v hv, hs⟩
     clear ho hall hl hQ
     generalize (JmbA R0 R1 A5 A6 G ao n cap cs a b c d w0 a0) (lq.setIfInBounds 5 true) = K at hK ⊢
     clear hJ2 hS z1 z2 z3 z4 z6 z7
     go_simp
     exact hK _ _ z5 (fun _ _ h => h) ⟨za, zb, zc, zd, zk, rfl, iza, izb, izc, izd⟩ hs
   | 6, ho =>
     cases ho
     refine wpOp_of rfl rfl ?_
     have f5 : ∃ x0 x1 x2 x3 : Int, ∃ k : Bool, (aq.tmps.getD 61 undef) = .tuple #[.agg #[.int .i64 x0, .int .i64 x1, .int .i64 x2, .int .i64 x3], .bool k] ∧ I64 x0 ∧ I64 x1 ∧ I64 x2 ∧ I64 x3 := z6 5 61 (hall ⟨5, .data⟩ (by simp) rfl) rfl
     obtain ⟨za, zb, zc, zd, zk, ez, iza, izb, izc, izd⟩ := f5
     have hK := fun (v : Value) (W2 : World) hW hT hv (hs : SmbA R0 R1 A5 A6 G ao n cap cs a b c d W2) => show (JmbA R0 R1 A5 A6 G ao n cap cs a b c d w0 a0) (lq.setIfInBounds 6 true) (aq.put (some 67) v) W2 from ⟨hJ2.put hS 6 67 rfl (by omega) (W' := W2) hW hT v hv, hs⟩
     clear ho hall hl hQ
     generalize (JmbA R0 R1 A5 A6 G ao n cap cs a b c d w0 a0) (lq.setIfInBounds 6 true) = K at hK ⊢
     clear hJ2 hS z1 z2 z3 z4 z6 z7
     go_simp
     exact hK _ _ z5 (fun _ _ h => h) ⟨za, zb, zc, zd, rfl, iza, izb, izc, izd⟩ hs
   | 7, ho =>
     cases ho
     refine wpOp_of rfl rfl ?_
     have f5 : ∃ x0 x1 x2 x3 : Int, ∃ k : Bool, (aq.tmps.getD 61 undef) = .tuple #[.agg #[.int .i64 x0, .int .i64 x1, .int .i64 x2, .int .i64 x3], .bool k] ∧ I64 x0 ∧ I64 x1 ∧ I64 x2 ∧ I64 x3 := z6 5 61 (hall ⟨5, .data⟩ (by simp) rfl) rfl
     obtain ⟨za, zb, zc, zd, zk, ez, iza, izb, izc, izd⟩ := f5
     have hK := fun (v : Value) (W2 : World) hW hT hv (hs : SmbA R0 R1 A5 A6 G ao n cap cs a b c d W2) => show (JmbA R0 R1 A5 A6 G ao n cap cs a b c d w0 a0) (lq.setIfInBounds 7 true) (aq.put (some 68) v) W2 from ⟨hJ2.put hS 7 68 rfl (by omega) (W' := W2) hW hT v hv, hs⟩
     clear ho hall hl hQ
     generalize (JmbA R0 R1 A5 A6 G ao n cap cs a b c d w0 a0) (lq.setIfInBounds 7 true) = K at hK ⊢
     clear hJ2 hS z1 z2 z3 z4 z6 z7
     go_simp
     exact hK _ _ z5 (fun _ _ h => h) trivial hs
   | 8, ho =>
     cases ho
     refine wpOp_of rfl rfl ?_
     have f6 : ∃ x0 x1 x2 x3 : Int, (aq.tmps.getD 67 undef) = .agg #[.int .i64 x0, .int .i64 x1, .int .i64 x2, .int .i64 x3] ∧ I64 x0 ∧ I64 x1 ∧ I64 x2 ∧ I64 x3 := z6 6 67 (hall ⟨6, .data⟩ (by simp) rfl) rfl
     obtain ⟨za, zb, zc, zd, ez, iza, izb, izc, izd⟩ := f6
     have hK := fun (W2 : World) hW hT hv (hs : SmbA R0 R1 A5 A6 G ao n cap cs a b c d W2) => show (JmbA R0 R1 A5 A6 G ao n cap cs a b c d w0 a0) (lq.setIfInBounds 8 true) aq W2 from ⟨hJ2.world 8 rfl (W' := W2) hW hT hv, hs⟩
     clear ho hall hl hQ
     generalize (JmbA R0 R1 A5 A6 G ao n cap cs a b c d w0 a0) (lq.setIfInBounds 8 true) = K at hK ⊢
     clear hJ2 hS z1 z2 z3 z4 z6 z7
     have nb : Blk ((((W.setCell ⟨A6, 0, none⟩ (.int .i64 za)).setCell ⟨A6, 1, none⟩ (.int .i64 zb)).setCell ⟨A6, 2, none⟩ (.int .i64 zc)).setCell ⟨A6, 3, none⟩ (.int .i64 zd)) A6 [.int .i64 za, .int .i64 zb, .int .i64 zc, .int .i64 zd] := ((((xc.setI 0 (by simp) _).setI 1 (by simp) _).setI 2 (by simp) _).setI 3 (by simp) _)
     have ns : SmbA R0 R1 A5 A6 G ao n cap cs a b c d ((((W.setCell ⟨A6, 0, none⟩ (.int .i64 za)).setCell ⟨A6, 1, none⟩ (.int .i64 zb)).setCell ⟨A6, 2, none⟩ (.int .i64 zc)).setCell ⟨A6, 3, none⟩ (.int .i64 zd)) := ⟨((((xr.setN (p := ⟨A6, 0, none⟩) n6 _).setN (p := ⟨A6, 1, none⟩) n6 _).setN (p := ⟨A6, 2, none⟩) n6 _).setN (p := ⟨A6, 3, none⟩) n6 _), ((((xa.setO (p := ⟨A6, 0, none⟩) (by show _ ≠ A6; omega) _).setO (p := ⟨A6, 1, none⟩) (by show _ ≠ A6; omega) _).setO (p := ⟨A6, 2, none⟩) (by show _ ≠ A6; omega) _).setO (p := ⟨A6, 3, none⟩) (by show _ ≠ A6; omega) _), ((((xe.setO (p := ⟨A6, 0, none⟩) (by show _ ≠ A6; omega) _).setO (p := ⟨A6, 1, none⟩) (by show _ ≠ A6; omega) _).setO (p := ⟨A6, 2, none⟩) (by show _ ≠ A6; omega) _).setO (p := ⟨A6, 3, none⟩) (by show _ ≠ A6; omega) _), ((((xf.setO (p := ⟨A6, 0, none⟩) (by show _ ≠ A6; omega) _).setO (p := ⟨A6, 1, none⟩) (by show _ ≠ A6; omega) _).setO (p := ⟨A6, 2, none⟩) (by show _ ≠ A6; omega) _).setO (p := ⟨A6, 3, none⟩) (by show _ ≠ A6; omega) _), za, zb, zc, zd, iza, izb, izc, izd, nb⟩
     have nB : Below R0 w0 ((((W.setCell ⟨A6, 0, none⟩ (.int .i64 za)).setCell ⟨A6, 1, none⟩ (.int .i64 zb)).setCell ⟨A6, 2, none⟩ (.int .i64 zc)).setCell ⟨A6, 3, none⟩ (.int .i64 zd)) := ((((z5.setCell (p := ⟨A6, 0, none⟩) (show R0 ≤ A6 by omega) _).setCell (p := ⟨A6, 1, none⟩) (show R0 ≤ A6 by omega) _).setCell (p := ⟨A6, 2, none⟩) (show R0 ≤ A6 by omega) _).setCell (p := ⟨A6, 3, none⟩) (show R0 ≤ A6 by omega) _)
     clear xr xc xa xe xf nb
     go_simp
     exact hK _ nB (fun _ _ h => VmbA.same h) trivial ns
   | iq + 9, ho => simp at ho
 · intro lq aq W ⟨hJ, hs⟩ hr
   obtain ⟨z1, z2, z3, z4, z5, z6, z7⟩ := hJ
   exact hQ aq W z2 z3 (fun e he => z4 e (by simpa using he))  z5 hs
def VmbB (_R0 _R1 _A5 _A6 : Nat) (a b c d p q u w : Int) (_B : Nat) : Nat → Value → World → Prop
 | 0, v, _ => v = .agg #[.int .i64 a, .int .i64 b, .int .i64 c, .int .i64 d]
 | 1, v, _ => v = .agg #[.int .i64 p, .int .i64 q, .int .i64 u, .int .i64 w]
 | _, _, _ => True
theorem VmbB.same {R0 R1 A5 A6 : Nat} {a b c d p q u w : Int} {B j : Nat} {v : Value} {W W2 : World} (h : VmbB R0 R1 A5 A6 a b c d p q u w B j v W) : VmbB R0 R1 A5 A6 a b c d p q u w B j v W2 := by
 unfold VmbB at *
 split <;> simp only at h <;> first | exact h | trivial
def SmbB (R0 R1 A5 A6 : Nat) (a b c d p q u w : Int) (W : World) : Prop := Blk W A5 [.int .i64 a, .int .i64 b, .int .i64 c, .int .i64 d] ∧ Blk W A6 [.int .i64 p, .int .i64 q, .int .i64 u, .int .i64 w] ∧ (∃ e0 e1 e2 e3 : Int, I64 e0 ∧ I64 e1 ∧ I64 e2 ∧ I64 e3 ∧ Blk W R0 [.int .i64 e0, .int .i64 e1, .int .i64 e2, .int .i64 e3]) ∧ ∃ m0 m1 m2 m3 : Int, I64 m0 ∧ I64 m1 ∧ I64 m2 ∧ I64 m3 ∧ Blk W R1 [.int .i64 m0, .int .i64 m1, .int .i64 m2, .int .i64 m3]
def JmbB (R0 R1 A5 A6 : Nat) (a b c d p q u w : Int) (w0 : World) (a0 : Act) (lz : Array Bool) (az : Act) (W : World) : Prop := InvQ (R0) [some 69, some 70, none, none] (VmbB R0 R1 A5 A6 a b c d p q u w (R0)) w0 a0 lz az W ∧ SmbB R0 R1 A5 A6 a b c d p q u w W
theorem mbB {Q : Exit → Act → World → Prop} {R0 R1 A5 A6 : Nat} {a b c d p q u w : Int}  {w0 : World} {a0 : Act} {idq : Nat} {t0 t1 t2 t3 : TypeId} {q0 q1 q2 q3 : String}
   (n01 : R0 < R1) (n5 : R1 < A5) (n6 : R1 < A6) (ia : I64 a) (ib : I64 b) (ic : I64 c) (id : I64 d) (np : I64 p) (nq : I64 q) (nu : I64 u) (nw : I64 w) (h5 : a0.tmps[5]? = some (.pointer (some ⟨A5, 0, none⟩))) (h6 : a0.tmps[6]? = some (.pointer (some ⟨A6, 0, none⟩))) (h2 : a0.tmps[2]? = some (.pointer (some ⟨R0, 0, none⟩))) (h3 : a0.tmps[3]? = some (.pointer (some ⟨R1, 0, none⟩)))  (hz : a0.tmps.size = 71) (hs0 : SmbB R0 R1 A5 A6 a b c d p q u w w0.drew)
   (hQ : ∀ aq W, aq.tmps.size = a0.tmps.size → aq.defers = a0.defers → (∀ e, e ∉ ([69, 70] : List Nat) → aq.tmps[e]? = a0.tmps[e]?) → Below (R0) w0 W → SmbB R0 R1 A5 A6 a b c d p q u w W → Q .normal aq W) :
   (Code.region idq #[{ dst := some 69, op := Op.load 27 (.tmp 5), type := t0, pos := q0, after := #[], guard := none },
   { dst := some 70, op := Op.load 27 (.tmp 6), type := t1, pos := q1, after := #[⟨2, .gcOnly .lateStores⟩], guard := none },
   { dst := none, op := Op.store 27 (.tmp 2) (.tmp 69), type := t2, pos := q2, after := #[⟨0, .data⟩, ⟨0, .phase⟩, ⟨1, .textOnly .lateStores⟩], guard := none },
   { dst := none, op := Op.store 27 (.tmp 3) (.tmp 70), type := t3, pos := q3, after := #[⟨1, .data⟩, ⟨2, .chain⟩, ⟨0, .phase⟩, ⟨1, .phase⟩, ⟨2, .phase⟩], guard := none }] true).wp Tryz.prog Q a0 w0 := by
 have hS : distS [some 69, some 70, none, none] = true := rfl
 refine wp_region_inv (by kernel_rfl) (JmbB R0 R1 A5 A6 a b c d p q u w w0 a0) ⟨⟨rfl, rfl, rfl, fun _ _ => rfl, (Below.refl _ w0).drew, fun j d hj => ?_, fun j hj => ?_⟩, hs0⟩ ?_ ?_
 · exfalso
   rw [Array.getD_eq_getD_getElem?, Array.getElem?_replicate] at hj
   split at hj <;> simp at hj
 · exfalso
   rw [Array.getD_eq_getD_getElem?, Array.getElem?_replicate] at hj
   split at hj <;> simp at hj
 · intro lq aq W iq oq ⟨hJ, hs⟩ hl ho hall
   have hJ2 := hJ
   obtain ⟨z1, z2, z3, z4, z5, z6, z7⟩ := hJ
   obtain ⟨xa, xb, ⟨e0, e1, e2, e3, j0, j1, j2, j3, xc⟩, m0, m1, m2, m3, l0, l1, l2, l3, xd⟩ := hs
   obtain ⟨ca0, ca1, ca2, ca3⟩ := xa.cs4; obtain ⟨cb0, cb1, cb2, cb3⟩ := xb.cs4
   obtain ⟨rc0, sc0, rc1, sc1, rc2, sc2, rc3, sc3⟩ := xc.cf4; have lc := xc.lt
   obtain ⟨rd0, sd0, rd1, sd1, rd2, sd2, rd3, sd3⟩ := xd.cf4; have ld := xd.lt
   have hs : SmbB R0 R1 A5 A6 a b c d p q u w W := ⟨xa, xb, ⟨e0, e1, e2, e3, j0, j1, j2, j3, xc⟩, m0, m1, m2, m3, l0, l1, l2, l3, xd⟩
   have g5 : aq.tmps.getD 5 undef = .pointer (some ⟨A5, 0, none⟩) := by rw [Array.getD_eq_getD_getElem?, z4 5 (by decide), h5]; rfl
   have g6 : aq.tmps.getD 6 undef = .pointer (some ⟨A6, 0, none⟩) := by rw [Array.getD_eq_getD_getElem?, z4 6 (by decide), h6]; rfl
   have g2 : aq.tmps.getD 2 undef = .pointer (some ⟨R0, 0, none⟩) := by rw [Array.getD_eq_getD_getElem?, z4 2 (by decide), h2]; rfl
   have g3 : aq.tmps.getD 3 undef = .pointer (some ⟨R1, 0, none⟩) := by rw [Array.getD_eq_getD_getElem?, z4 3 (by decide), h3]; rfl
   match iq, ho with
   | 0, ho =>
     cases ho
     refine wpOp_of rfl rfl ?_
     have hK := fun (v : Value) (W2 : World) hW hT hv (hs : SmbB R0 R1 A5 A6 a b c d p q u w W2) => show (JmbB R0 R1 A5 A6 a b c d p q u w w0 a0) (lq.setIfInBounds 0 true) (aq.put (some 69) v) W2 from ⟨hJ2.put hS 0 69 rfl (by omega) (W' := W2) hW hT v hv, hs⟩
     clear ho hall hl hQ
     generalize (JmbB R0 R1 A5 A6 a b c d p q u w w0 a0) (lq.setIfInBounds 0 true) = K at hK ⊢
     clear hJ2 hS z1 z2 z3 z4 z6 z7
     go_simp
     exact hK _ _ z5 (fun _ _ h => h) rfl hs
   | 1, ho =>
     cases ho
     refine wpOp_of rfl rfl ?_
     have hK := fun (v : Value) (W2 : World) hW hT hv (hs : SmbB R0 R1 A5 A6 a b c d p q u w W2) => show (JmbB R0 R1 A5 A6 a b c d p q u w w0 a0) (lq.setIfInBounds 1 true) (aq.put (some 70) v) W2 from ⟨hJ2.put hS 1 70 rfl (by omega) (W' := W2) hW hT v hv, hs⟩
     clear ho hall hl hQ
     generalize (JmbB R0 R1 A5 A6 a b c d p q u w w0 a0) (lq.setIfInBounds 1 true) = K at hK ⊢
     clear hJ2 hS z1 z2 z3 z4 z6 z7
     go_simp
     exact hK _ _ z5 (fun _ _ h => h) rfl hs
   | 2, ho =>
     cases ho
     refine wpOp_of rfl rfl ?_
     have f0 : (aq.tmps.getD 69 undef) = .agg #[.int .i64 a, .int .i64 b, .int .i64 c, .int .i64 d] := z6 0 69 (hall ⟨0, .data⟩ (by simp) rfl) rfl
     have hK := fun (W2 : World) hW hT hv (hs : SmbB R0 R1 A5 A6 a b c d p q u w W2) => show (JmbB R0 R1 A5 A6 a b c d p q u w w0 a0) (lq.setIfInBounds 2 true) aq W2 from ⟨hJ2.world 2 rfl (W' := W2) hW hT hv, hs⟩
     clear ho hall hl hQ
     generalize (JmbB R0 R1 A5 A6 a b c d p q u w w0 a0) (lq.setIfInBounds 2 true) = K at hK ⊢
     clear hJ2 hS z1 z2 z3 z4 z6 z7
     have nb : Blk ((((W.setCell ⟨R0, 0, none⟩ (.int .i64 a)).setCell ⟨R0, 1, none⟩ (.int .i64 b)).setCell ⟨R0, 2, none⟩ (.int .i64 c)).setCell ⟨R0, 3, none⟩ (.int .i64 d)) R0 [.int .i64 a, .int .i64 b, .int .i64 c, .int .i64 d] := ((((xc.setI 0 (by simp) _).setI 1 (by simp) _).setI 2 (by simp) _).setI 3 (by simp) _)
     have ns : SmbB R0 R1 A5 A6 a b c d p q u w ((((W.setCell ⟨R0, 0, none⟩ (.int .i64 a)).setCell ⟨R0, 1, none⟩ (.int .i64 b)).setCell ⟨R0, 2, none⟩ (.int .i64 c)).setCell ⟨R0, 3, none⟩ (.int .i64 d)) := ⟨((((xa.setO (p := ⟨R0, 0, none⟩) (by show _ ≠ R0; omega) _).setO (p := ⟨R0, 1, none⟩) (by show _ ≠ R0; omega) _).setO (p := ⟨R0, 2, none⟩) (by show _ ≠ R0; omega) _).setO (p := ⟨R0, 3, none⟩) (by show _ ≠ R0; omega) _), ((((xb.setO (p := ⟨R0, 0, none⟩) (by show _ ≠ R0; omega) _).setO (p := ⟨R0, 1, none⟩) (by show _ ≠ R0; omega) _).setO (p := ⟨R0, 2, none⟩) (by show _ ≠ R0; omega) _).setO (p := ⟨R0, 3, none⟩) (by show _ ≠ R0; omega) _), ⟨a, b, c, d, ia, ib, ic, id, nb⟩, m0, m1, m2, m3, l0, l1, l2, l3, ((((xd.setO (p := ⟨R0, 0, none⟩) (by show _ ≠ R0; omega) _).setO (p := ⟨R0, 1, none⟩) (by show _ ≠ R0; omega) _).setO (p := ⟨R0, 2, none⟩) (by show _ ≠ R0; omega) _).setO (p := ⟨R0, 3, none⟩) (by show _ ≠ R0; omega) _)⟩
     have nB : Below R0 w0 ((((W.setCell ⟨R0, 0, none⟩ (.int .i64 a)).setCell ⟨R0, 1, none⟩ (.int .i64 b)).setCell ⟨R0, 2, none⟩ (.int .i64 c)).setCell ⟨R0, 3, none⟩ (.int .i64 d)) := ((((z5.setCell (p := ⟨R0, 0, none⟩) (Nat.le_refl _) _).setCell (p := ⟨R0, 1, none⟩) (Nat.le_refl _) _).setCell (p := ⟨R0, 2, none⟩) (Nat.le_refl _) _).setCell (p := ⟨R0, 3, none⟩) (Nat.le_refl _) _)
     clear xa xb xc xd nb
     go_simp
     exact hK _ nB (fun _ _ h => VmbB.same h) trivial ns
   | 3, ho =>
     cases ho
     refine wpOp_of rfl rfl ?_
     have f1 : (aq.tmps.getD 70 undef) = .agg #[.int .i64 p, .int .i64 q, .int .i64 u, .int .i64 w] := z6 1 70 (hall ⟨1, .data⟩ (by simp) rfl) rfl
     have hK := fun (W2 : World) hW hT hv (hs : SmbB R0 R1 A5 A6 a b c d p q u w W2) => show (JmbB R0 R1 A5 A6 a b c d p q u w w0 a0) (lq.setIfInBounds 3 true) aq W2 from ⟨hJ2.world 3 rfl (W' := W2) hW hT hv, hs⟩
     clear ho hall hl hQ
     generalize (JmbB R0 R1 A5 A6 a b c d p q u w w0 a0) (lq.setIfInBounds 3 true) = K at hK ⊢
     clear hJ2 hS z1 z2 z3 z4 z6 z7
     have nb : Blk ((((W.setCell ⟨R1, 0, none⟩ (.int .i64 p)).setCell ⟨R1, 1, none⟩ (.int .i64 q)).setCell ⟨R1, 2, none⟩ (.int .i64 u)).setCell ⟨R1, 3, none⟩ (.int .i64 w)) R1 [.int .i64 p, .int .i64 q, .int .i64 u, .int .i64 w] := ((((xd.setI 0 (by simp) _).setI 1 (by simp) _).setI 2 (by simp) _).setI 3 (by simp) _)
     have ns : SmbB R0 R1 A5 A6 a b c d p q u w ((((W.setCell ⟨R1, 0, none⟩ (.int .i64 p)).setCell ⟨R1, 1, none⟩ (.int .i64 q)).setCell ⟨R1, 2, none⟩ (.int .i64 u)).setCell ⟨R1, 3, none⟩ (.int .i64 w)) := ⟨((((xa.setO (p := ⟨R1, 0, none⟩) (by show _ ≠ R1; omega) _).setO (p := ⟨R1, 1, none⟩) (by show _ ≠ R1; omega) _).setO (p := ⟨R1, 2, none⟩) (by show _ ≠ R1; omega) _).setO (p := ⟨R1, 3, none⟩) (by show _ ≠ R1; omega) _), ((((xb.setO (p := ⟨R1, 0, none⟩) (by show _ ≠ R1; omega) _).setO (p := ⟨R1, 1, none⟩) (by show _ ≠ R1; omega) _).setO (p := ⟨R1, 2, none⟩) (by show _ ≠ R1; omega) _).setO (p := ⟨R1, 3, none⟩) (by show _ ≠ R1; omega) _), ⟨e0, e1, e2, e3, j0, j1, j2, j3, ((((xc.setO (p := ⟨R1, 0, none⟩) (by show _ ≠ R1; omega) _).setO (p := ⟨R1, 1, none⟩) (by show _ ≠ R1; omega) _).setO (p := ⟨R1, 2, none⟩) (by show _ ≠ R1; omega) _).setO (p := ⟨R1, 3, none⟩) (by show _ ≠ R1; omega) _)⟩, p, q, u, w, np, nq, nu, nw, nb⟩
     have nB : Below R0 w0 ((((W.setCell ⟨R1, 0, none⟩ (.int .i64 p)).setCell ⟨R1, 1, none⟩ (.int .i64 q)).setCell ⟨R1, 2, none⟩ (.int .i64 u)).setCell ⟨R1, 3, none⟩ (.int .i64 w)) := ((((z5.setCell (p := ⟨R1, 0, none⟩) (Nat.le_of_lt n01) _).setCell (p := ⟨R1, 1, none⟩) (Nat.le_of_lt n01) _).setCell (p := ⟨R1, 2, none⟩) (Nat.le_of_lt n01) _).setCell (p := ⟨R1, 3, none⟩) (Nat.le_of_lt n01) _)
     clear xa xb xc xd nb
     go_simp
     exact hK _ nB (fun _ _ h => VmbB.same h) trivial ns
   | iq + 4, ho => simp at ho
 · intro lq aq W ⟨hJ, hs⟩ hr
   obtain ⟨z1, z2, z3, z4, z5, z6, z7⟩ := hJ
   exact hQ aq W z2 z3 (fun e he => z4 e (by simpa using he))  z5 hs
def VmbS (A4 : Nat) (a b c d p q u w x y e f cm : Int) (_B : Nat) : Nat → Value → World → Prop
 | 0, v, _ => v = PV x y 1
 | 1, v, _ => v = PV e f 1
 | 2, v, _ => v = .int .i64 cm
 | 3, v, _ => v = .bool true
 | 4, v, _ => v = .bool true
 | 5, v, _ => v = Sg a b c d
 | 6, v, _ => v = PV x y 1
 | 7, v, _ => v = .bool true
 | 8, v, _ => v = .bool true
 | 9, v, _ => v = .bool true
 | 10, v, _ => v = Sg p q u w
 | 11, v, _ => v = PV x y 1
 | 12, v, _ => v = .bool true
 | 13, v, _ => v = .bool true
 | 14, v, _ => v = .bool true
 | 15, v, _ => v = Sg a b c d
 | 16, v, _ => v = PV e f 1
 | 17, v, _ => v = .bool true
 | 18, v, _ => v = .bool true
 | 19, v, _ => v = .bool true
 | 20, v, _ => v = Sg p q u w
 | 21, v, _ => v = PV e f 1
 | 22, v, _ => v = .bool true
 | 23, v, _ => v = .bool true
 | 24, v, _ => v = .bool true
 | 25, v, _ => v = Sg a b c d
 | 26, v, _ => v = .pointer (some ⟨A4, 0, none⟩)
 | 27, v, _ => v = Sp p q
 | 28, v, _ => v = PV p q 1
 | 29, v, _ => v = .int .i64 0
 | 30, v, _ => v = .bool true
 | 31, v, _ => v = .bool true
 | 32, v, _ => v = .bool true
 | 33, v, _ => v = Sg a b c d
 | 34, v, _ => v = .pointer (some ⟨A4, 2, none⟩)
 | 35, v, _ => v = Sp u w
 | 36, v, _ => v = PV u w 1
 | 37, v, _ => v = .int .i64 0
 | 38, v, _ => v = .bool true
 | 39, v, _ => v = .bool true
 | 40, v, _ => v = .bool true
 | _, _, _ => True
theorem VmbS.mono {A4 : Nat} {a b c d p q u w x y e f cm : Int} {B j : Nat} {v : Value} {W W2 : World} (_hB : Below W.heap.size W W2) (h : VmbS A4 a b c d p q u w x y e f cm B j v W) : VmbS A4 a b c d p q u w x y e f cm B j v W2 := by
 unfold VmbS at *
 split <;> simp only at h <;> first | exact h | trivial
theorem mbS {Q : Exit → Act → World → Prop} {A4 : Nat} {a b c d p q u w x y e f cm : Int} {A3 A6 A7 : Nat}  {w0 : World} {a0 : Act} {idq : Nat} {t0 t1 t2 t3 t4 t5 t6 t7 t8 t9 t10 t11 t12 t13 t14 t15 t16 t17 t18 t19 t20 t21 t22 t23 t24 t25 t26 t27 t28 t29 t30 t31 t32 t33 t34 t35 t36 t37 t38 t39 t40 : TypeId} {q0 q1 q2 q3 q4 q5 q6 q7 q8 q9 q10 q11 q12 q13 q14 q15 q16 q17 q18 q19 q20 q21 q22 q23 q24 q25 q26 q27 q28 q29 q30 q31 q32 q33 q34 q35 q36 q37 q38 q39 q40 : String}
   (hcm : cm < 0) (hC : ∀ w', Calls Tryz.prog 20 #[PV x y 1, PV e f 1] w' (VP (.int .i64 cm) w')) (o1 : ∀ w', Calls Tryz.prog 16 #[Sg a b c d, PV x y 1] w' (VP (.bool true) w')) (o2 : ∀ w', Calls Tryz.prog 16 #[Sg p q u w, PV x y 1] w' (VP (.bool true) w')) (o3 : ∀ w', Calls Tryz.prog 16 #[Sg a b c d, PV e f 1] w' (VP (.bool true) w')) (o4 : ∀ w', Calls Tryz.prog 16 #[Sg p q u w, PV e f 1] w' (VP (.bool true) w')) (hp1 : ∀ w', Calls Tryz.prog 11 #[Sp p q] w' (VP (PV p q 1) w')) (hp2 : ∀ w', Calls Tryz.prog 11 #[Sp u w] w' (VP (PV u w 1) w')) (hs1 : ∀ w', Calls Tryz.prog 21 #[Sg a b c d, PV p q 1] w' (VP (.int .i64 0) w')) (hs2 : ∀ w', Calls Tryz.prog 21 #[Sg a b c d, PV u w 1] w' (VP (.int .i64 0) w')) (h3 : a0.tmps[3]? = some (.pointer (some ⟨A3, 0, none⟩))) (h4 : a0.tmps[4]? = some (.pointer (some ⟨A4, 0, none⟩))) (h6 : a0.tmps[6]? = some (.pointer (some ⟨A6, 0, none⟩))) (h7 : a0.tmps[7]? = some (.pointer (some ⟨A7, 0, none⟩))) (k0 : w0.cell? ⟨A3, 0, none⟩ = some (.int .i64 a)) (l0 : (⟨A3, 0, none⟩ : Addr).block < w0.heap.size) (k1 : w0.cell? ⟨A3, 1, none⟩ = some (.int .i64 b)) (l1 : (⟨A3, 1, none⟩ : Addr).block < w0.heap.size) (k2 : w0.cell? ⟨A3, 2, none⟩ = some (.int .i64 c)) (l2 : (⟨A3, 2, none⟩ : Addr).block < w0.heap.size) (k3 : w0.cell? ⟨A3, 3, none⟩ = some (.int .i64 d)) (l3 : (⟨A3, 3, none⟩ : Addr).block < w0.heap.size) (k4 : w0.cell? ⟨A4, 0, none⟩ = some (.int .i64 p)) (l4 : (⟨A4, 0, none⟩ : Addr).block < w0.heap.size) (k5 : w0.cell? ⟨A4, 1, none⟩ = some (.int .i64 q)) (l5 : (⟨A4, 1, none⟩ : Addr).block < w0.heap.size) (k6 : w0.cell? ⟨A4, 2, none⟩ = some (.int .i64 u)) (l6 : (⟨A4, 2, none⟩ : Addr).block < w0.heap.size) (k7 : w0.cell? ⟨A4, 3, none⟩ = some (.int .i64 w)) (l7 : (⟨A4, 3, none⟩ : Addr).block < w0.heap.size) (k8 : w0.cell? ⟨A6, 0, none⟩ = some (.int .u64 (ww3 x))) (l8 : (⟨A6, 0, none⟩ : Addr).block < w0.heap.size) (k9 : w0.cell? ⟨A6, 1, none⟩ = some (.int .u64 (ww2 x))) (l9 : (⟨A6, 1, none⟩ : Addr).block < w0.heap.size) (k10 : w0.cell? ⟨A6, 2, none⟩ = some (.int .u64 (ww1 x))) (l10 : (⟨A6, 2, none⟩ : Addr).block < w0.heap.size) (k11 : w0.cell? ⟨A6, 3, none⟩ = some (.int .u64 (ww0 x))) (l11 : (⟨A6, 3, none⟩ : Addr).block < w0.heap.size) (k12 : w0.cell? ⟨A6, 4, none⟩ = some (.int .u64 (ww3 y))) (l12 : (⟨A6, 4, none⟩ : Addr).block < w0.heap.size) (k13 : w0.cell? ⟨A6, 5, none⟩ = some (.int .u64 (ww2 y))) (l13 : (⟨A6, 5, none⟩ : Addr).block < w0.heap.size) (k14 : w0.cell? ⟨A6, 6, none⟩ = some (.int .u64 (ww1 y))) (l14 : (⟨A6, 6, none⟩ : Addr).block < w0.heap.size) (k15 : w0.cell? ⟨A6, 7, none⟩ = some (.int .u64 (ww0 y))) (l15 : (⟨A6, 7, none⟩ : Addr).block < w0.heap.size) (k16 : w0.cell? ⟨A6, 8, none⟩ = some (.int .u64 (ww3 1))) (l16 : (⟨A6, 8, none⟩ : Addr).block < w0.heap.size) (k17 : w0.cell? ⟨A6, 9, none⟩ = some (.int .u64 (ww2 1))) (l17 : (⟨A6, 9, none⟩ : Addr).block < w0.heap.size) (k18 : w0.cell? ⟨A6, 10, none⟩ = some (.int .u64 (ww1 1))) (l18 : (⟨A6, 10, none⟩ : Addr).block < w0.heap.size) (k19 : w0.cell? ⟨A6, 11, none⟩ = some (.int .u64 (ww0 1))) (l19 : (⟨A6, 11, none⟩ : Addr).block < w0.heap.size) (k20 : w0.cell? ⟨A7, 0, none⟩ = some (.int .u64 (ww3 e))) (l20 : (⟨A7, 0, none⟩ : Addr).block < w0.heap.size) (k21 : w0.cell? ⟨A7, 1, none⟩ = some (.int .u64 (ww2 e))) (l21 : (⟨A7, 1, none⟩ : Addr).block < w0.heap.size) (k22 : w0.cell? ⟨A7, 2, none⟩ = some (.int .u64 (ww1 e))) (l22 : (⟨A7, 2, none⟩ : Addr).block < w0.heap.size) (k23 : w0.cell? ⟨A7, 3, none⟩ = some (.int .u64 (ww0 e))) (l23 : (⟨A7, 3, none⟩ : Addr).block < w0.heap.size) (k24 : w0.cell? ⟨A7, 4, none⟩ = some (.int .u64 (ww3 f))) (l24 : (⟨A7, 4, none⟩ : Addr).block < w0.heap.size) (k25 : w0.cell? ⟨A7, 5, none⟩ = some (.int .u64 (ww2 f))) (l25 : (⟨A7, 5, none⟩ : Addr).block < w0.heap.size) (k26 : w0.cell? ⟨A7, 6, none⟩ = some (.int .u64 (ww1 f))) (l26 : (⟨A7, 6, none⟩ : Addr).block < w0.heap.size) (k27 : w0.cell? ⟨A7, 7, none⟩ = some (.int .u64 (ww0 f))) (l27 : (⟨A7, 7, none⟩ : Addr).block < w0.heap.size) (k28 : w0.cell? ⟨A7, 8, none⟩ = some (.int .u64 (ww3 1))) (l28 : (⟨A7, 8, none⟩ : Addr).block < w0.heap.size) (k29 : w0.cell? ⟨A7, 9, none⟩ = some (.int .u64 (ww2 1))) (l29 : (⟨A7, 9, none⟩ : Addr).block < w0.heap.size) (k30 : w0.cell? ⟨A7, 10, none⟩ = some (.int .u64 (ww1 1))) (l30 : (⟨A7, 10, none⟩ : Addr).block < w0.heap.size) (k31 : w0.cell? ⟨A7, 11, none⟩ = some (.int .u64 (ww0 1))) (l31 : (⟨A7, 11, none⟩ : Addr).block < w0.heap.size) (hz : a0.tmps.size = 181)
   (hQ : ∀ aq W, aq.tmps.size = a0.tmps.size → aq.defers = a0.defers → (∀ e, e ∉ ([95, 96, 97, 98, 99, 100, 101, 102, 103, 104, 105, 106, 107, 108, 109, 110, 111, 112, 113, 114, 115, 116, 117, 118, 119, 120, 121, 122, 123, 124, 125, 126, 127, 128, 129, 130, 131, 132, 133, 134, 2] : List Nat) → aq.tmps[e]? = a0.tmps[e]?) → VmbS A4 a b c d p q u w x y e f cm w0.heap.size 40 (aq.tmps.getD 2 undef) W → Below w0.heap.size w0 W → Q .normal aq W) :
   (Code.region idq #[{ dst := some 95, op := Op.load 40 (.tmp 6), type := t0, pos := q0, after := #[], guard := none },
   { dst := some 96, op := Op.load 40 (.tmp 7), type := t1, pos := q1, after := #[], guard := none },
   { dst := some 97, op := Op.call { callee := Callee.value (Operand.func 20), args := #[.tmp 95, .tmp 96], argTypes := #[40, 40] }, type := t2, pos := q2, after := #[⟨0, .data⟩, ⟨1, .data⟩], guard := none },
   { dst := some 98, op := Op.binOp BinOp.lss 2 (.tmp 97) (Operand.const (Value.int IntKind.i64 0)) 2, type := t3, pos := q3, after := #[⟨2, .data⟩], guard := none },
   { dst := some 99, op := Op.move (.tmp 98), type := t4, pos := q4, after := #[⟨3, .data⟩, ⟨2, .chain⟩], guard := none },
   { dst := some 100, op := Op.load 27 (.tmp 3), type := t5, pos := q5, after := #[⟨4, .guard⟩], guard := some (4, true) },
   { dst := some 101, op := Op.load 40 (.tmp 6), type := t6, pos := q6, after := #[⟨4, .guard⟩], guard := some (4, true) },
   { dst := some 102, op := Op.call { callee := Callee.value (Operand.func 16), args := #[.tmp 100, .tmp 101], argTypes := #[27, 40] }, type := t7, pos := q7, after := #[⟨5, .data⟩, ⟨6, .data⟩, ⟨4, .chain⟩, ⟨4, .guard⟩], guard := some (4, true) },
   { dst := some 103, op := Op.pick (.tmp 99) (.tmp 102) (Operand.const (Value.bool false)), type := t8, pos := q8, after := #[⟨4, .data⟩, ⟨7, .data⟩], guard := none },
   { dst := some 104, op := Op.move (.tmp 103), type := t9, pos := q9, after := #[⟨8, .data⟩, ⟨7, .chain⟩], guard := none },
   { dst := some 105, op := Op.load 27 (.tmp 4), type := t10, pos := q10, after := #[⟨9, .guard⟩], guard := some (9, true) },
   { dst := some 106, op := Op.load 40 (.tmp 6), type := t11, pos := q11, after := #[⟨9, .guard⟩], guard := some (9, true) },
   { dst := some 107, op := Op.call { callee := Callee.value (Operand.func 16), args := #[.tmp 105, .tmp 106], argTypes := #[27, 40] }, type := t12, pos := q12, after := #[⟨10, .data⟩, ⟨11, .data⟩, ⟨9, .chain⟩, ⟨9, .guard⟩], guard := some (9, true) },
   { dst := some 108, op := Op.pick (.tmp 104) (.tmp 107) (Operand.const (Value.bool false)), type := t13, pos := q13, after := #[⟨9, .data⟩, ⟨12, .data⟩], guard := none },
   { dst := some 109, op := Op.move (.tmp 108), type := t14, pos := q14, after := #[⟨13, .data⟩, ⟨12, .chain⟩], guard := none },
   { dst := some 110, op := Op.load 27 (.tmp 3), type := t15, pos := q15, after := #[⟨14, .guard⟩], guard := some (14, true) },
   { dst := some 111, op := Op.load 40 (.tmp 7), type := t16, pos := q16, after := #[⟨14, .guard⟩], guard := some (14, true) },
   { dst := some 112, op := Op.call { callee := Callee.value (Operand.func 16), args := #[.tmp 110, .tmp 111], argTypes := #[27, 40] }, type := t17, pos := q17, after := #[⟨15, .data⟩, ⟨16, .data⟩, ⟨14, .chain⟩, ⟨14, .guard⟩], guard := some (14, true) },
   { dst := some 113, op := Op.pick (.tmp 109) (.tmp 112) (Operand.const (Value.bool false)), type := t18, pos := q18, after := #[⟨14, .data⟩, ⟨17, .data⟩], guard := none },
   { dst := some 114, op := Op.move (.tmp 113), type := t19, pos := q19, after := #[⟨18, .data⟩, ⟨17, .chain⟩], guard := none },
   { dst := some 115, op := Op.load 27 (.tmp 4), type := t20, pos := q20, after := #[⟨19, .guard⟩], guard := some (19, true) },
   { dst := some 116, op := Op.load 40 (.tmp 7), type := t21, pos := q21, after := #[⟨19, .guard⟩], guard := some (19, true) },
   { dst := some 117, op := Op.call { callee := Callee.value (Operand.func 16), args := #[.tmp 115, .tmp 116], argTypes := #[27, 40] }, type := t22, pos := q22, after := #[⟨20, .data⟩, ⟨21, .data⟩, ⟨19, .chain⟩, ⟨19, .guard⟩], guard := some (19, true) },
   { dst := some 118, op := Op.pick (.tmp 114) (.tmp 117) (Operand.const (Value.bool false)), type := t23, pos := q23, after := #[⟨19, .data⟩, ⟨22, .data⟩], guard := none },
   { dst := some 119, op := Op.move (.tmp 118), type := t24, pos := q24, after := #[⟨23, .data⟩, ⟨22, .chain⟩], guard := none },
   { dst := some 120, op := Op.load 27 (.tmp 3), type := t25, pos := q25, after := #[⟨24, .guard⟩], guard := some (24, true) },
   { dst := some 121, op := Op.fieldAddr 27 (.tmp 4) 0, type := t26, pos := q26, after := #[⟨24, .guard⟩], guard := some (24, true) },
   { dst := some 122, op := Op.load 25 (.tmp 121), type := t27, pos := q27, after := #[⟨26, .data⟩, ⟨24, .guard⟩], guard := some (24, true) },
   { dst := some 123, op := Op.call { callee := Callee.value (Operand.func 11), args := #[.tmp 122], argTypes := #[25] }, type := t28, pos := q28, after := #[⟨27, .data⟩, ⟨24, .chain⟩, ⟨24, .guard⟩], guard := some (24, true) },
   { dst := some 124, op := Op.call { callee := Callee.value (Operand.func 21), args := #[.tmp 120, .tmp 123], argTypes := #[27, 40] }, type := t29, pos := q29, after := #[⟨25, .data⟩, ⟨28, .data⟩, ⟨28, .chain⟩, ⟨24, .guard⟩], guard := some (24, true) },
   { dst := some 125, op := Op.binOp BinOp.eql 2 (.tmp 124) (Operand.const (Value.int IntKind.i64 0)) 2, type := t30, pos := q30, after := #[⟨29, .data⟩, ⟨24, .guard⟩], guard := some (24, true) },
   { dst := some 126, op := Op.pick (.tmp 119) (.tmp 125) (Operand.const (Value.bool false)), type := t31, pos := q31, after := #[⟨24, .data⟩, ⟨30, .data⟩], guard := none },
   { dst := some 127, op := Op.move (.tmp 126), type := t32, pos := q32, after := #[⟨31, .data⟩, ⟨29, .chain⟩], guard := none },
   { dst := some 128, op := Op.load 27 (.tmp 3), type := t33, pos := q33, after := #[⟨32, .guard⟩], guard := some (32, true) },
   { dst := some 129, op := Op.fieldAddr 27 (.tmp 4) 1, type := t34, pos := q34, after := #[⟨32, .guard⟩], guard := some (32, true) },
   { dst := some 130, op := Op.load 25 (.tmp 129), type := t35, pos := q35, after := #[⟨34, .data⟩, ⟨32, .guard⟩], guard := some (32, true) },
   { dst := some 131, op := Op.call { callee := Callee.value (Operand.func 11), args := #[.tmp 130], argTypes := #[25] }, type := t36, pos := q36, after := #[⟨35, .data⟩, ⟨32, .chain⟩, ⟨32, .guard⟩], guard := some (32, true) },
   { dst := some 132, op := Op.call { callee := Callee.value (Operand.func 21), args := #[.tmp 128, .tmp 131], argTypes := #[27, 40] }, type := t37, pos := q37, after := #[⟨33, .data⟩, ⟨36, .data⟩, ⟨36, .chain⟩, ⟨32, .guard⟩], guard := some (32, true) },
   { dst := some 133, op := Op.binOp BinOp.eql 2 (.tmp 132) (Operand.const (Value.int IntKind.i64 0)) 2, type := t38, pos := q38, after := #[⟨37, .data⟩, ⟨32, .guard⟩], guard := some (32, true) },
   { dst := some 134, op := Op.pick (.tmp 127) (.tmp 133) (Operand.const (Value.bool false)), type := t39, pos := q39, after := #[⟨32, .data⟩, ⟨38, .data⟩], guard := none },
   { dst := some 2, op := Op.assign (.tmp 134), type := t40, pos := q40, after := #[⟨39, .data⟩, ⟨37, .chain⟩, ⟨0, .phase⟩, ⟨1, .phase⟩, ⟨2, .phase⟩, ⟨3, .phase⟩, ⟨4, .phase⟩, ⟨5, .phase⟩, ⟨6, .phase⟩, ⟨7, .phase⟩, ⟨8, .phase⟩, ⟨9, .phase⟩, ⟨10, .phase⟩, ⟨11, .phase⟩, ⟨12, .phase⟩, ⟨13, .phase⟩, ⟨14, .phase⟩, ⟨15, .phase⟩, ⟨16, .phase⟩, ⟨17, .phase⟩, ⟨18, .phase⟩, ⟨19, .phase⟩, ⟨20, .phase⟩, ⟨21, .phase⟩, ⟨22, .phase⟩, ⟨23, .phase⟩, ⟨24, .phase⟩, ⟨25, .phase⟩, ⟨26, .phase⟩, ⟨27, .phase⟩, ⟨28, .phase⟩, ⟨29, .phase⟩, ⟨30, .phase⟩, ⟨31, .phase⟩, ⟨32, .phase⟩, ⟨33, .phase⟩, ⟨34, .phase⟩, ⟨35, .phase⟩, ⟨36, .phase⟩, ⟨37, .phase⟩, ⟨38, .phase⟩, ⟨39, .phase⟩], guard := none }] true).wp Tryz.prog Q a0 w0 := by
 have hS : distS [some 95, some 96, some 97, some 98, some 99, some 100, some 101, some 102, some 103, some 104, some 105, some 106, some 107, some 108, some 109, some 110, some 111, some 112, some 113, some 114, some 115, some 116, some 117, some 118, some 119, some 120, some 121, some 122, some 123, some 124, some 125, some 126, some 127, some 128, some 129, some 130, some 131, some 132, some 133, some 134, some 2] = true := rfl
 refine wp_region_q (by kernel_rfl) w0.heap.size [some 95, some 96, some 97, some 98, some 99, some 100, some 101, some 102, some 103, some 104, some 105, some 106, some 107, some 108, some 109, some 110, some 111, some 112, some 113, some 114, some 115, some 116, some 117, some 118, some 119, some 120, some 121, some 122, some 123, some 124, some 125, some 126, some 127, some 128, some 129, some 130, some 131, some 132, some 133, some 134, some 2] (VmbS A4 a b c d p q u w x y e f cm w0.heap.size) rfl ?_ ?_
 · intro Q lq aq W iq oq hJ hl ho hall
   have hJ2 := hJ
   obtain ⟨z1, z2, z3, z4, z5, z6, z7⟩ := hJ
   have g3 : aq.tmps.getD 3 undef = .pointer (some ⟨A3, 0, none⟩) := by rw [Array.getD_eq_getD_getElem?, z4 3 (by decide), h3]; rfl
   have g4 : aq.tmps.getD 4 undef = .pointer (some ⟨A4, 0, none⟩) := by rw [Array.getD_eq_getD_getElem?, z4 4 (by decide), h4]; rfl
   have g6 : aq.tmps.getD 6 undef = .pointer (some ⟨A6, 0, none⟩) := by rw [Array.getD_eq_getD_getElem?, z4 6 (by decide), h6]; rfl
   have g7 : aq.tmps.getD 7 undef = .pointer (some ⟨A7, 0, none⟩) := by rw [Array.getD_eq_getD_getElem?, z4 7 (by decide), h7]; rfl
   have c0 : W.cell? ⟨A3, 0, none⟩ = some (.int .i64 a) := (z5.cell l0).trans k0
   have c1 : W.cell? ⟨A3, 1, none⟩ = some (.int .i64 b) := (z5.cell l1).trans k1
   have c2 : W.cell? ⟨A3, 2, none⟩ = some (.int .i64 c) := (z5.cell l2).trans k2
   have c3 : W.cell? ⟨A3, 3, none⟩ = some (.int .i64 d) := (z5.cell l3).trans k3
   have c4 : W.cell? ⟨A4, 0, none⟩ = some (.int .i64 p) := (z5.cell l4).trans k4
   have c5 : W.cell? ⟨A4, 1, none⟩ = some (.int .i64 q) := (z5.cell l5).trans k5
   have c6 : W.cell? ⟨A4, 2, none⟩ = some (.int .i64 u) := (z5.cell l6).trans k6
   have c7 : W.cell? ⟨A4, 3, none⟩ = some (.int .i64 w) := (z5.cell l7).trans k7
   have c8 : W.cell? ⟨A6, 0, none⟩ = some (.int .u64 (ww3 x)) := (z5.cell l8).trans k8
   have c9 : W.cell? ⟨A6, 1, none⟩ = some (.int .u64 (ww2 x)) := (z5.cell l9).trans k9
   have c10 : W.cell? ⟨A6, 2, none⟩ = some (.int .u64 (ww1 x)) := (z5.cell l10).trans k10
   have c11 : W.cell? ⟨A6, 3, none⟩ = some (.int .u64 (ww0 x)) := (z5.cell l11).trans k11
   have c12 : W.cell? ⟨A6, 4, none⟩ = some (.int .u64 (ww3 y)) := (z5.cell l12).trans k12
   have c13 : W.cell? ⟨A6, 5, none⟩ = some (.int .u64 (ww2 y)) := (z5.cell l13).trans k13
   have c14 : W.cell? ⟨A6, 6, none⟩ = some (.int .u64 (ww1 y)) := (z5.cell l14).trans k14
   have c15 : W.cell? ⟨A6, 7, none⟩ = some (.int .u64 (ww0 y)) := (z5.cell l15).trans k15
   have c16 : W.cell? ⟨A6, 8, none⟩ = some (.int .u64 (ww3 1)) := (z5.cell l16).trans k16
   have c17 : W.cell? ⟨A6, 9, none⟩ = some (.int .u64 (ww2 1)) := (z5.cell l17).trans k17
   have c18 : W.cell? ⟨A6, 10, none⟩ = some (.int .u64 (ww1 1)) := (z5.cell l18).trans k18
   have c19 : W.cell? ⟨A6, 11, none⟩ = some (.int .u64 (ww0 1)) := (z5.cell l19).trans k19
   have c20 : W.cell? ⟨A7, 0, none⟩ = some (.int .u64 (ww3 e)) := (z5.cell l20).trans k20
   have c21 : W.cell? ⟨A7, 1, none⟩ = some (.int .u64 (ww2 e)) := (z5.cell l21).trans k21
   have c22 : W.cell? ⟨A7, 2, none⟩ = some (.int .u64 (ww1 e)) := (z5.cell l22).trans k22
   have c23 : W.cell? ⟨A7, 3, none⟩ = some (.int .u64 (ww0 e)) := (z5.cell l23).trans k23
   have c24 : W.cell? ⟨A7, 4, none⟩ = some (.int .u64 (ww3 f)) := (z5.cell l24).trans k24
   have c25 : W.cell? ⟨A7, 5, none⟩ = some (.int .u64 (ww2 f)) := (z5.cell l25).trans k25
   have c26 : W.cell? ⟨A7, 6, none⟩ = some (.int .u64 (ww1 f)) := (z5.cell l26).trans k26
   have c27 : W.cell? ⟨A7, 7, none⟩ = some (.int .u64 (ww0 f)) := (z5.cell l27).trans k27
   have c28 : W.cell? ⟨A7, 8, none⟩ = some (.int .u64 (ww3 1)) := (z5.cell l28).trans k28
   have c29 : W.cell? ⟨A7, 9, none⟩ = some (.int .u64 (ww2 1)) := (z5.cell l29).trans k29
   have c30 : W.cell? ⟨A7, 10, none⟩ = some (.int .u64 (ww1 1)) := (z5.cell l30).trans k30
   have c31 : W.cell? ⟨A7, 11, none⟩ = some (.int .u64 (ww0 1)) := (z5.cell l31).trans k31
   match iq, ho with
   | 0, ho =>
     cases ho
     refine wpOp_of rfl rfl ?_
     have hK := fun v W2 hW hT hv => hJ2.put hS 0 95 rfl (by omega) (W' := W2) hW hT v hv
     clear ho hall hl hQ
     generalize InvQ _ _ _ w0 a0 (lq.setIfInBounds 0 true) = K at hK ⊢
     clear hJ2 hS z1 z2 z3 z4 z6 z7
     go_simp
     exact hK _ _ z5 (fun _ _ h => h) rfl
   | 1, ho =>
     cases ho
     refine wpOp_of rfl rfl ?_
     have hK := fun v W2 hW hT hv => hJ2.put hS 1 96 rfl (by omega) (W' := W2) hW hT v hv
     clear ho hall hl hQ
     generalize InvQ _ _ _ w0 a0 (lq.setIfInBounds 1 true) = K at hK ⊢
     clear hJ2 hS z1 z2 z3 z4 z6 z7
     go_simp
     exact hK _ _ z5 (fun _ _ h => h) rfl
   | 2, ho =>
     cases ho
     refine wpOp_of rfl rfl ?_
     have f0 : (aq.tmps.getD 95 undef) = PV x y 1 := z6 0 95 (hall ⟨0, .data⟩ (by simp) rfl) rfl
     have f1 : (aq.tmps.getD 96 undef) = PV e f 1 := z6 1 96 (hall ⟨1, .data⟩ (by simp) rfl) rfl
     have hK := fun v W2 hW hT hv => hJ2.put hS 2 97 rfl (by omega) (W' := W2) hW hT v hv
     clear ho hall hl hQ
     generalize InvQ _ _ _ w0 a0 (lq.setIfInBounds 2 true) = K at hK ⊢
     clear hJ2 hS z1 z2 z3 z4 z6 z7
     go_simp
     refine (hC W).mono ?_
     rintro e v1 ⟨rfl, hBv⟩
     exact hK _ _ (z5.trans (hBv.mono z5.size)) (fun _ _ h => h.mono hBv) rfl
   | 3, ho =>
     cases ho
     refine wpOp_of rfl rfl ?_
     have f2 : (aq.tmps.getD 97 undef) = .int .i64 cm := z6 2 97 (hall ⟨2, .data⟩ (by simp) rfl) rfl
     have hK := fun v W2 hW hT hv => hJ2.put hS 3 98 rfl (by omega) (W' := W2) hW hT v hv
     clear ho hall hl hQ
     generalize InvQ _ _ _ w0 a0 (lq.setIfInBounds 3 true) = K at hK ⊢
     clear hJ2 hS z1 z2 z3 z4 z6 z7
     go_simp
     exact hK _ _ z5 (fun _ _ h => h) rfl
   | 4, ho =>
     cases ho
     refine wpOp_of rfl rfl ?_
     have f3 : (aq.tmps.getD 98 undef) = .bool true := z6 3 98 (hall ⟨3, .data⟩ (by simp) rfl) rfl
     have hK := fun v W2 hW hT hv => hJ2.put hS 4 99 rfl (by omega) (W' := W2) hW hT v hv
     clear ho hall hl hQ
     generalize InvQ _ _ _ w0 a0 (lq.setIfInBounds 4 true) = K at hK ⊢
     clear hJ2 hS z1 z2 z3 z4 z6 z7
     go_simp
     exact hK _ _ z5 (fun _ _ h => h) rfl
   | 5, ho =>
     cases ho
     have fg : aq.tmps.getD 99 undef = .bool true := z6 4 99 (hall ⟨4, .guard⟩ (by simp) rfl) rfl
     refine wpOp_on rfl rfl rfl rfl fg ?_
     have hK := fun v W2 hW hT hv => hJ2.put hS 5 100 rfl (by omega) (W' := W2) hW hT v hv
     clear ho hall hl hQ
     generalize InvQ _ _ _ w0 a0 (lq.setIfInBounds 5 true) = K at hK ⊢
     clear hJ2 hS z1 z2 z3 z4 z6 z7
     go_simp
     exact hK _ _ z5 (fun _ _ h => h) rfl
   | 6, ho =>
     cases ho
     have fg : aq.tmps.getD 99 undef = .bool true := z6 4 99 (hall ⟨4, .guard⟩ (by simp) rfl) rfl
     refine wpOp_on rfl rfl rfl rfl fg ?_
     have hK := fun v W2 hW hT hv => hJ2.put hS 6 101 rfl (by omega) (W' := W2) hW hT v hv
     clear ho hall hl hQ
     generalize InvQ _ _ _ w0 a0 (lq.setIfInBounds 6 true) = K at hK ⊢
     clear hJ2 hS z1 z2 z3 z4 z6 z7
     go_simp
     exact hK _ _ z5 (fun _ _ h => h) rfl
   | 7, ho =>
     cases ho
     have fg : aq.tmps.getD 99 undef = .bool true := z6 4 99 (hall ⟨4, .guard⟩ (by simp) rfl) rfl
     refine wpOp_on rfl rfl rfl rfl fg ?_
     have f5 : (aq.tmps.getD 100 undef) = Sg a b c d := z6 5 100 (hall ⟨5, .data⟩ (by simp) rfl) rfl
     have f6 : (aq.tmps.getD 101 undef) = PV x y 1 := z6 6 101 (hall ⟨6, .data⟩ (by simp) rfl) rfl
     have hK := fun v W2 hW hT hv => hJ2.put hS 7 102 rfl (by omega) (W' := W2) hW hT v hv
     clear ho hall hl hQ
     generalize InvQ _ _ _ w0 a0 (lq.setIfInBounds 7 true) = K at hK ⊢
     clear hJ2 hS z1 z2 z3 z4 z6 z7
     go_simp
     refine (o1 W).mono ?_
     rintro e v1 ⟨rfl, hBv⟩
     exact hK _ _ (z5.trans (hBv.mono z5.size)) (fun _ _ h => h.mono hBv) rfl
   | 8, ho =>
     cases ho
     refine wpOp_of rfl rfl ?_
     have f4 : (aq.tmps.getD 99 undef) = .bool true := z6 4 99 (hall ⟨4, .data⟩ (by simp) rfl) rfl
     have f7 : (aq.tmps.getD 102 undef) = .bool true := z6 7 102 (hall ⟨7, .data⟩ (by simp) rfl) rfl
     have hK := fun v W2 hW hT hv => hJ2.put hS 8 103 rfl (by omega) (W' := W2) hW hT v hv
     clear ho hall hl hQ
     generalize InvQ _ _ _ w0 a0 (lq.setIfInBounds 8 true) = K at hK ⊢
     clear hJ2 hS z1 z2 z3 z4 z6 z7
     go_simp
     exact hK _ _ z5 (fun _ _ h => h) rfl
   | 9, ho =>
     cases ho
     refine wpOp_of rfl rfl ?_
     have f8 : (aq.tmps.getD 103 undef) = .bool true := z6 8 103 (hall ⟨8, .data⟩ (by simp) rfl) rfl
     have hK := fun v W2 hW hT hv => hJ2.put hS 9 104 rfl (by omega) (W' := W2) hW hT v hv
     clear ho hall hl hQ
     generalize InvQ _ _ _ w0 a0 (lq.setIfInBounds 9 true) = K at hK ⊢
     clear hJ2 hS z1 z2 z3 z4 z6 z7
     go_simp
     exact hK _ _ z5 (fun _ _ h => h) rfl
   | 10, ho =>
     cases ho
     have fg : aq.tmps.getD 104 undef = .bool true := z6 9 104 (hall ⟨9, .guard⟩ (by simp) rfl) rfl
     refine wpOp_on rfl rfl rfl rfl fg ?_
     have hK := fun v W2 hW hT hv => hJ2.put hS 10 105 rfl (by omega) (W' := W2) hW hT v hv
     clear ho hall hl hQ
     generalize InvQ _ _ _ w0 a0 (lq.setIfInBounds 10 true) = K at hK ⊢
     clear hJ2 hS z1 z2 z3 z4 z6 z7
     go_simp
     exact hK _ _ z5 (fun _ _ h => h) rfl
   | 11, ho =>
     cases ho
     have fg : aq.tmps.getD 104 undef = .bool true := z6 9 104 (hall ⟨9, .guard⟩ (by simp) rfl) rfl
     refine wpOp_on rfl rfl rfl rfl fg ?_
     have hK := fun v W2 hW hT hv => hJ2.put hS 11 106 rfl (by omega) (W' := W2) hW hT v hv
     clear ho hall hl hQ
     generalize InvQ _ _ _ w0 a0 (lq.setIfInBounds 11 true) = K at hK ⊢
     clear hJ2 hS z1 z2 z3 z4 z6 z7
     go_simp
     exact hK _ _ z5 (fun _ _ h => h) rfl
   | 12, ho =>
     cases ho
     have fg : aq.tmps.getD 104 undef = .bool true := z6 9 104 (hall ⟨9, .guard⟩ (by simp) rfl) rfl
     refine wpOp_on rfl rfl rfl rfl fg ?_
     have f10 : (aq.tmps.getD 105 undef) = Sg p q u w := z6 10 105 (hall ⟨10, .data⟩ (by simp) rfl) rfl
     have f11 : (aq.tmps.getD 106 undef) = PV x y 1 := z6 11 106 (hall ⟨11, .data⟩ (by simp) rfl) rfl
     have hK := fun v W2 hW hT hv => hJ2.put hS 12 107 rfl (by omega) (W' := W2) hW hT v hv
     clear ho hall hl hQ
     generalize InvQ _ _ _ w0 a0 (lq.setIfInBounds 12 true) = K at hK ⊢
     clear hJ2 hS z1 z2 z3 z4 z6 z7
     go_simp
     refine (o2 W).mono ?_
     rintro e v1 ⟨rfl, hBv⟩
     exact hK _ _ (z5.trans (hBv.mono z5.size)) (fun _ _ h => h.mono hBv) rfl
   | 13, ho =>
     cases ho
     refine wpOp_of rfl rfl ?_
     have f9 : (aq.tmps.getD 104 undef) = .bool true := z6 9 104 (hall ⟨9, .data⟩ (by simp) rfl) rfl
     have f12 : (aq.tmps.getD 107 undef) = .bool true := z6 12 107 (hall ⟨12, .data⟩ (by simp) rfl) rfl
     have hK := fun v W2 hW hT hv => hJ2.put hS 13 108 rfl (by omega) (W' := W2) hW hT v hv
     clear ho hall hl hQ
     generalize InvQ _ _ _ w0 a0 (lq.setIfInBounds 13 true) = K at hK ⊢
     clear hJ2 hS z1 z2 z3 z4 z6 z7
     go_simp
     exact hK _ _ z5 (fun _ _ h => h) rfl
   | 14, ho =>
     cases ho
     refine wpOp_of rfl rfl ?_
     have f13 : (aq.tmps.getD 108 undef) = .bool true := z6 13 108 (hall ⟨13, .data⟩ (by simp) rfl) rfl
     have hK := fun v W2 hW hT hv => hJ2.put hS 14 109 rfl (by omega) (W' := W2) hW hT v hv
     clear ho hall hl hQ
     generalize InvQ _ _ _ w0 a0 (lq.setIfInBounds 14 true) = K at hK ⊢
     clear hJ2 hS z1 z2 z3 z4 z6 z7
     go_simp
     exact hK _ _ z5 (fun _ _ h => h) rfl
   | 15, ho =>
     cases ho
     have fg : aq.tmps.getD 109 undef = .bool true := z6 14 109 (hall ⟨14, .guard⟩ (by simp) rfl) rfl
     refine wpOp_on rfl rfl rfl rfl fg ?_
     have hK := fun v W2 hW hT hv => hJ2.put hS 15 110 rfl (by omega) (W' := W2) hW hT v hv
     clear ho hall hl hQ
     generalize InvQ _ _ _ w0 a0 (lq.setIfInBounds 15 true) = K at hK ⊢
     clear hJ2 hS z1 z2 z3 z4 z6 z7
     go_simp
     exact hK _ _ z5 (fun _ _ h => h) rfl
   | 16, ho =>
     cases ho
     have fg : aq.tmps.getD 109 undef = .bool true := z6 14 109 (hall ⟨14, .guard⟩ (by simp) rfl) rfl
     refine wpOp_on rfl rfl rfl rfl fg ?_
     have hK := fun v W2 hW hT hv => hJ2.put hS 16 111 rfl (by omega) (W' := W2) hW hT v hv
     clear ho hall hl hQ
     generalize InvQ _ _ _ w0 a0 (lq.setIfInBounds 16 true) = K at hK ⊢
     clear hJ2 hS z1 z2 z3 z4 z6 z7
     go_simp
     exact hK _ _ z5 (fun _ _ h => h) rfl
   | 17, ho =>
     cases ho
     have fg : aq.tmps.getD 109 undef = .bool true := z6 14 109 (hall ⟨14, .guard⟩ (by simp) rfl) rfl
     refine wpOp_on rfl rfl rfl rfl fg ?_
     have f15 : (aq.tmps.getD 110 undef) = Sg a b c d := z6 15 110 (hall ⟨15, .data⟩ (by simp) rfl) rfl
     have f16 : (aq.tmps.getD 111 undef) = PV e f 1 := z6 16 111 (hall ⟨16, .data⟩ (by simp) rfl) rfl
     have hK := fun v W2 hW hT hv => hJ2.put hS 17 112 rfl (by omega) (W' := W2) hW hT v hv
     clear ho hall hl hQ
     generalize InvQ _ _ _ w0 a0 (lq.setIfInBounds 17 true) = K at hK ⊢
     clear hJ2 hS z1 z2 z3 z4 z6 z7
     go_simp
     refine (o3 W).mono ?_
     rintro e v1 ⟨rfl, hBv⟩
     exact hK _ _ (z5.trans (hBv.mono z5.size)) (fun _ _ h => h.mono hBv) rfl
   | 18, ho =>
     cases ho
     refine wpOp_of rfl rfl ?_
     have f14 : (aq.tmps.getD 109 undef) = .bool true := z6 14 109 (hall ⟨14, .data⟩ (by simp) rfl) rfl
     have f17 : (aq.tmps.getD 112 undef) = .bool true := z6 17 112 (hall ⟨17, .data⟩ (by simp) rfl) rfl
     have hK := fun v W2 hW hT hv => hJ2.put hS 18 113 rfl (by omega) (W' := W2) hW hT v hv
     clear ho hall hl hQ
     generalize InvQ _ _ _ w0 a0 (lq.setIfInBounds 18 true) = K at hK ⊢
     clear hJ2 hS z1 z2 z3 z4 z6 z7
     go_simp
     exact hK _ _ z5 (fun _ _ h => h) rfl
   | 19, ho =>
     cases ho
     refine wpOp_of rfl rfl ?_
     have f18 : (aq.tmps.getD 113 undef) = .bool true := z6 18 113 (hall ⟨18, .data⟩ (by simp) rfl) rfl
     have hK := fun v W2 hW hT hv => hJ2.put hS 19 114 rfl (by omega) (W' := W2) hW hT v hv
     clear ho hall hl hQ
     generalize InvQ _ _ _ w0 a0 (lq.setIfInBounds 19 true) = K at hK ⊢
     clear hJ2 hS z1 z2 z3 z4 z6 z7
     go_simp
     exact hK _ _ z5 (fun _ _ h => h) rfl
   | 20, ho =>
     cases ho
     have fg : aq.tmps.getD 114 undef = .bool true := z6 19 114 (hall ⟨19, .guard⟩ (by simp) rfl) rfl
     refine wpOp_on rfl rfl rfl rfl fg ?_
     have hK := fun v W2 hW hT hv => hJ2.put hS 20 115 rfl (by omega) (W' := W2) hW hT v hv
     clear ho hall hl hQ
     generalize InvQ _ _ _ w0 a0 (lq.setIfInBounds 20 true) = K at hK ⊢
     clear hJ2 hS z1 z2 z3 z4 z6 z7
     go_simp
     exact hK _ _ z5 (fun _ _ h => h) rfl
   | 21, ho =>
     cases ho
     have fg : aq.tmps.getD 114 undef = .bool true := z6 19 114 (hall ⟨19, .guard⟩ (by simp) rfl) rfl
     refine wpOp_on rfl rfl rfl rfl fg ?_
     have hK := fun v W2 hW hT hv => hJ2.put hS 21 116 rfl (by omega) (W' := W2) hW hT v hv
     clear ho hall hl hQ
     generalize InvQ _ _ _ w0 a0 (lq.setIfInBounds 21 true) = K at hK ⊢
     clear hJ2 hS z1 z2 z3 z4 z6 z7
     go_simp
     exact hK _ _ z5 (fun _ _ h => h) rfl
   | 22, ho =>
     cases ho
     have fg : aq.tmps.getD 114 undef = .bool true := z6 19 114 (hall ⟨19, .guard⟩ (by simp) rfl) rfl
     refine wpOp_on rfl rfl rfl rfl fg ?_
     have f20 : (aq.tmps.getD 115 undef) = Sg p q u w := z6 20 115 (hall ⟨20, .data⟩ (by simp) rfl) rfl
     have f21 : (aq.tmps.getD 116 undef) = PV e f 1 := z6 21 116 (hall ⟨21, .data⟩ (by simp) rfl) rfl
     have hK := fun v W2 hW hT hv => hJ2.put hS 22 117 rfl (by omega) (W' := W2) hW hT v hv
     clear ho hall hl hQ
     generalize InvQ _ _ _ w0 a0 (lq.setIfInBounds 22 true) = K at hK ⊢
     clear hJ2 hS z1 z2 z3 z4 z6 z7
     go_simp
     refine (o4 W).mono ?_
     rintro e v1 ⟨rfl, hBv⟩
     exact hK _ _ (z5.trans (hBv.mono z5.size)) (fun _ _ h => h.mono hBv) rfl
   | 23, ho =>
     cases ho
     refine wpOp_of rfl rfl ?_
     have f19 : (aq.tmps.getD 114 undef) = .bool true := z6 19 114 (hall ⟨19, .data⟩ (by simp) rfl) rfl
     have f22 : (aq.tmps.getD 117 undef) = .bool true := z6 22 117 (hall ⟨22, .data⟩ (by simp) rfl) rfl
     have hK := fun v W2 hW hT hv => hJ2.put hS 23 118 rfl (by omega) (W' := W2) hW hT v hv
     clear ho hall hl hQ
     generalize InvQ _ _ _ w0 a0 (lq.setIfInBounds 23 true) = K at hK ⊢
     clear hJ2 hS z1 z2 z3 z4 z6 z7
     go_simp
     exact hK _ _ z5 (fun _ _ h => h) rfl
   | 24, ho =>
     cases ho
     refine wpOp_of rfl rfl ?_
     have f23 : (aq.tmps.getD 118 undef) = .bool true := z6 23 118 (hall ⟨23, .data⟩ (by simp) rfl) rfl
     have hK := fun v W2 hW hT hv => hJ2.put hS 24 119 rfl (by omega) (W' := W2) hW hT v hv
     clear ho hall hl hQ
     generalize InvQ _ _ _ w0 a0 (lq.setIfInBounds 24 true) = K at hK ⊢
     clear hJ2 hS z1 z2 z3 z4 z6 z7
     go_simp
     exact hK _ _ z5 (fun _ _ h => h) rfl
   | 25, ho =>
     cases ho
     have fg : aq.tmps.getD 119 undef = .bool true := z6 24 119 (hall ⟨24, .guard⟩ (by simp) rfl) rfl
     refine wpOp_on rfl rfl rfl rfl fg ?_
     have hK := fun v W2 hW hT hv => hJ2.put hS 25 120 rfl (by omega) (W' := W2) hW hT v hv
     clear ho hall hl hQ
     generalize InvQ _ _ _ w0 a0 (lq.setIfInBounds 25 true) = K at hK ⊢
     clear hJ2 hS z1 z2 z3 z4 z6 z7
     go_simp
     exact hK _ _ z5 (fun _ _ h => h) rfl
   | 26, ho =>
     cases ho
     have fg : aq.tmps.getD 119 undef = .bool true := z6 24 119 (hall ⟨24, .guard⟩ (by simp) rfl) rfl
     refine wpOp_on rfl rfl rfl rfl fg ?_
     have hK := fun v W2 hW hT hv => hJ2.put hS 26 121 rfl (by omega) (W' := W2) hW hT v hv
     clear ho hall hl hQ
     generalize InvQ _ _ _ w0 a0 (lq.setIfInBounds 26 true) = K at hK ⊢
     clear hJ2 hS z1 z2 z3 z4 z6 z7
     go_simp
     exact hK _ _ z5 (fun _ _ h => h) rfl
   | 27, ho =>
     cases ho
     have fg : aq.tmps.getD 119 undef = .bool true := z6 24 119 (hall ⟨24, .guard⟩ (by simp) rfl) rfl
     refine wpOp_on rfl rfl rfl rfl fg ?_
     have f26 : (aq.tmps.getD 121 undef) = .pointer (some ⟨A4, 0, none⟩) := z6 26 121 (hall ⟨26, .data⟩ (by simp) rfl) rfl
     have hK := fun v W2 hW hT hv => hJ2.put hS 27 122 rfl (by omega) (W' := W2) hW hT v hv
     clear ho hall hl hQ
     generalize InvQ _ _ _ w0 a0 (lq.setIfInBounds 27 true) = K at hK ⊢
     clear hJ2 hS z1 z2 z3 z4 z6 z7
     go_simp
     exact hK _ _ z5 (fun _ _ h => h) rfl
   | 28, ho =>
     cases ho
     have fg : aq.tmps.getD 119 undef = .bool true := z6 24 119 (hall ⟨24, .guard⟩ (by simp) rfl) rfl
     refine wpOp_on rfl rfl rfl rfl fg ?_
     have f27 : (aq.tmps.getD 122 undef) = Sp p q := z6 27 122 (hall ⟨27, .data⟩ (by simp) rfl) rfl
     have hK := fun v W2 hW hT hv => hJ2.put hS 28 123 rfl (by omega) (W' := W2) hW hT v hv
     clear ho hall hl hQ
     generalize InvQ _ _ _ w0 a0 (lq.setIfInBounds 28 true) = K at hK ⊢
     clear hJ2 hS z1 z2 z3 z4 z6 z7
     go_simp
     refine (hp1 W).mono ?_
     rintro e v1 ⟨rfl, hBv⟩
     exact hK _ _ (z5.trans (hBv.mono z5.size)) (fun _ _ h => h.mono hBv) rfl
   | 29, ho =>
     cases ho
     have fg : aq.tmps.getD 119 undef = .bool true := z6 24 119 (hall ⟨24, .guard⟩ (by simp) rfl) rfl
     refine wpOp_on rfl rfl rfl rfl fg ?_
     have f25 : (aq.tmps.getD 120 undef) = Sg a b c d := z6 25 120 (hall ⟨25, .data⟩ (by simp) rfl) rfl
     have f28 : (aq.tmps.getD 123 undef) = PV p q 1 := z6 28 123 (hall ⟨28, .data⟩ (by simp) rfl) rfl
     have hK := fun v W2 hW hT hv => hJ2.put hS 29 124 rfl (by omega) (W' := W2) hW hT v hv
     clear ho hall hl hQ
     generalize InvQ _ _ _ w0 a0 (lq.setIfInBounds 29 true) = K at hK ⊢
     clear hJ2 hS z1 z2 z3 z4 z6 z7
     go_simp
     refine (hs1 W).mono ?_
     rintro e v1 ⟨rfl, hBv⟩
     exact hK _ _ (z5.trans (hBv.mono z5.size)) (fun _ _ h => h.mono hBv) rfl
   | 30, ho =>
     cases ho
     have fg : aq.tmps.getD 119 undef = .bool true := z6 24 119 (hall ⟨24, .guard⟩ (by simp) rfl) rfl
     refine wpOp_on rfl rfl rfl rfl fg ?_
     have f29 : (aq.tmps.getD 124 undef) = .int .i64 0 := z6 29 124 (hall ⟨29, .data⟩ (by simp) rfl) rfl
     have hK := fun v W2 hW hT hv => hJ2.put hS 30 125 rfl (by omega) (W' := W2) hW hT v hv
     clear ho hall hl hQ
     generalize InvQ _ _ _ w0 a0 (lq.setIfInBounds 30 true) = K at hK ⊢
     clear hJ2 hS z1 z2 z3 z4 z6 z7
     go_simp
     exact hK _ _ z5 (fun _ _ h => h) rfl
   | 31, ho =>
     cases ho
     refine wpOp_of rfl rfl ?_
     have f24 : (aq.tmps.getD 119 undef) = .bool true := z6 24 119 (hall ⟨24, .data⟩ (by simp) rfl) rfl
     have f30 : (aq.tmps.getD 125 undef) = .bool true := z6 30 125 (hall ⟨30, .data⟩ (by simp) rfl) rfl
     have hK := fun v W2 hW hT hv => hJ2.put hS 31 126 rfl (by omega) (W' := W2) hW hT v hv
     clear ho hall hl hQ
     generalize InvQ _ _ _ w0 a0 (lq.setIfInBounds 31 true) = K at hK ⊢
     clear hJ2 hS z1 z2 z3 z4 z6 z7
     go_simp
     exact hK _ _ z5 (fun _ _ h => h) rfl
   | 32, ho =>
     cases ho
     refine wpOp_of rfl rfl ?_
     have f31 : (aq.tmps.getD 126 undef) = .bool true := z6 31 126 (hall ⟨31, .data⟩ (by simp) rfl) rfl
     have hK := fun v W2 hW hT hv => hJ2.put hS 32 127 rfl (by omega) (W' := W2) hW hT v hv
     clear ho hall hl hQ
     generalize InvQ _ _ _ w0 a0 (lq.setIfInBounds 32 true) = K at hK ⊢
     clear hJ2 hS z1 z2 z3 z4 z6 z7
     go_simp
     exact hK _ _ z5 (fun _ _ h => h) rfl
   | 33, ho =>
     cases ho
     have fg : aq.tmps.getD 127 undef = .bool true := z6 32 127 (hall ⟨32, .guard⟩ (by simp) rfl) rfl
     refine wpOp_on rfl rfl rfl rfl fg ?_
     have hK := fun v W2 hW hT hv => hJ2.put hS 33 128 rfl (by omega) (W' := W2) hW hT v hv
     clear ho hall hl hQ
     generalize InvQ _ _ _ w0 a0 (lq.setIfInBounds 33 true) = K at hK ⊢
     clear hJ2 hS z1 z2 z3 z4 z6 z7
     go_simp
     exact hK _ _ z5 (fun _ _ h => h) rfl
   | 34, ho =>
     cases ho
     have fg : aq.tmps.getD 127 undef = .bool true := z6 32 127 (hall ⟨32, .guard⟩ (by simp) rfl) rfl
     refine wpOp_on rfl rfl rfl rfl fg ?_
     have hK := fun v W2 hW hT hv => hJ2.put hS 34 129 rfl (by omega) (W' := W2) hW hT v hv
     clear ho hall hl hQ
     generalize InvQ _ _ _ w0 a0 (lq.setIfInBounds 34 true) = K at hK ⊢
     clear hJ2 hS z1 z2 z3 z4 z6 z7
     go_simp
     exact hK _ _ z5 (fun _ _ h => h) rfl
   | 35, ho =>
     cases ho
     have fg : aq.tmps.getD 127 undef = .bool true := z6 32 127 (hall ⟨32, .guard⟩ (by simp) rfl) rfl
     refine wpOp_on rfl rfl rfl rfl fg ?_
     have f34 : (aq.tmps.getD 129 undef) = .pointer (some ⟨A4, 2, none⟩) := z6 34 129 (hall ⟨34, .data⟩ (by simp) rfl) rfl
     have hK := fun v W2 hW hT hv => hJ2.put hS 35 130 rfl (by omega) (W' := W2) hW hT v hv
     clear ho hall hl hQ
     generalize InvQ _ _ _ w0 a0 (lq.setIfInBounds 35 true) = K at hK ⊢
     clear hJ2 hS z1 z2 z3 z4 z6 z7
     go_simp
     exact hK _ _ z5 (fun _ _ h => h) rfl
   | 36, ho =>
     cases ho
     have fg : aq.tmps.getD 127 undef = .bool true := z6 32 127 (hall ⟨32, .guard⟩ (by simp) rfl) rfl
     refine wpOp_on rfl rfl rfl rfl fg ?_
     have f35 : (aq.tmps.getD 130 undef) = Sp u w := z6 35 130 (hall ⟨35, .data⟩ (by simp) rfl) rfl
     have hK := fun v W2 hW hT hv => hJ2.put hS 36 131 rfl (by omega) (W' := W2) hW hT v hv
     clear ho hall hl hQ
     generalize InvQ _ _ _ w0 a0 (lq.setIfInBounds 36 true) = K at hK ⊢
     clear hJ2 hS z1 z2 z3 z4 z6 z7
     go_simp
     refine (hp2 W).mono ?_
     rintro e v1 ⟨rfl, hBv⟩
     exact hK _ _ (z5.trans (hBv.mono z5.size)) (fun _ _ h => h.mono hBv) rfl
   | 37, ho =>
     cases ho
     have fg : aq.tmps.getD 127 undef = .bool true := z6 32 127 (hall ⟨32, .guard⟩ (by simp) rfl) rfl
     refine wpOp_on rfl rfl rfl rfl fg ?_
     have f33 : (aq.tmps.getD 128 undef) = Sg a b c d := z6 33 128 (hall ⟨33, .data⟩ (by simp) rfl) rfl
     have f36 : (aq.tmps.getD 131 undef) = PV u w 1 := z6 36 131 (hall ⟨36, .data⟩ (by simp) rfl) rfl
     have hK := fun v W2 hW hT hv => hJ2.put hS 37 132 rfl (by omega) (W' := W2) hW hT v hv
     clear ho hall hl hQ
     generalize InvQ _ _ _ w0 a0 (lq.setIfInBounds 37 true) = K at hK ⊢
     clear hJ2 hS z1 z2 z3 z4 z6 z7
     go_simp
     refine (hs2 W).mono ?_
     rintro e v1 ⟨rfl, hBv⟩
     exact hK _ _ (z5.trans (hBv.mono z5.size)) (fun _ _ h => h.mono hBv) rfl
   | 38, ho =>
     cases ho
     have fg : aq.tmps.getD 127 undef = .bool true := z6 32 127 (hall ⟨32, .guard⟩ (by simp) rfl) rfl
     refine wpOp_on rfl rfl rfl rfl fg ?_
     have f37 : (aq.tmps.getD 132 undef) = .int .i64 0 := z6 37 132 (hall ⟨37, .data⟩ (by simp) rfl) rfl
     have hK := fun v W2 hW hT hv => hJ2.put hS 38 133 rfl (by omega) (W' := W2) hW hT v hv
     clear ho hall hl hQ
     generalize InvQ _ _ _ w0 a0 (lq.setIfInBounds 38 true) = K at hK ⊢
     clear hJ2 hS z1 z2 z3 z4 z6 z7
     go_simp
     exact hK _ _ z5 (fun _ _ h => h) rfl
   | 39, ho =>
     cases ho
     refine wpOp_of rfl rfl ?_
     have f32 : (aq.tmps.getD 127 undef) = .bool true := z6 32 127 (hall ⟨32, .data⟩ (by simp) rfl) rfl
     have f38 : (aq.tmps.getD 133 undef) = .bool true := z6 38 133 (hall ⟨38, .data⟩ (by simp) rfl) rfl
     have hK := fun v W2 hW hT hv => hJ2.put hS 39 134 rfl (by omega) (W' := W2) hW hT v hv
     clear ho hall hl hQ
     generalize InvQ _ _ _ w0 a0 (lq.setIfInBounds 39 true) = K at hK ⊢
     clear hJ2 hS z1 z2 z3 z4 z6 z7
     go_simp
     exact hK _ _ z5 (fun _ _ h => h) rfl
   | 40, ho =>
     cases ho
     refine wpOp_of rfl rfl ?_
     have f39 : (aq.tmps.getD 134 undef) = .bool true := z6 39 134 (hall ⟨39, .data⟩ (by simp) rfl) rfl
     have hK := fun v W2 hW hT hv => hJ2.put hS 40 2 rfl (by omega) (W' := W2) hW hT v hv
     clear ho hall hl hQ
     generalize InvQ _ _ _ w0 a0 (lq.setIfInBounds 40 true) = K at hK ⊢
     clear hJ2 hS z1 z2 z3 z4 z6 z7
     go_simp
     exact hK _ _ z5 (fun _ _ h => h) rfl
   | iq + 41, ho => simp at ho
 · intro lq aq W hJ hr
   obtain ⟨z1, z2, z3, z4, z5, z6, z7⟩ := hJ
   have hl := listed_of hr [0, 1, 2, 3, 4, 5, 6, 7, 8, 9, 10, 11, 12, 13, 14, 15, 16, 17, 18, 19, 20, 21, 22, 23, 24, 25, 26, 27, 28, 29, 30, 31, 32, 33, 34, 35, 36, 37, 38, 39, 40] [] (by simp) (by kernel_rfl) (by rw [z1]; decide)
   exact hQ aq W z2 z3 (fun e he => z4 e (by simpa using he)) (z6 40 2 (hl 40 (by simp)) rfl) z5
def VmbN (A3 A4 : Nat) (a b c d p q u w m1 m2 m3 : Int) (_B : Nat) : Nat → Value → World → Prop
 | 0, v, _ => v = Sg a b c d
 | 1, v, _ => v = .pointer (some ⟨A4, 0, none⟩)
 | 2, v, _ => v = Sp p q
 | 3, v, _ => v = PV p q 1
 | 4, v, _ => v = .bool false
 | 5, v, _ => v = .bool true
 | 6, v, _ => v = .bool true
 | 7, v, _ => v = Sg a b c d
 | 8, v, _ => v = .pointer (some ⟨A4, 2, none⟩)
 | 9, v, _ => v = Sp u w
 | 10, v, _ => v = PV u w 1
 | 11, v, _ => v = .bool false
 | 12, v, _ => v = .bool true
 | 13, v, _ => v = .bool true
 | 14, v, _ => v = .bool true
 | 15, v, _ => v = Sg p q u w
 | 16, v, _ => v = .pointer (some ⟨A3, 0, none⟩)
 | 17, v, _ => v = Sp a b
 | 18, v, _ => v = PV a b 1
 | 19, v, _ => v = .bool false
 | 20, v, _ => v = .bool true
 | 21, v, _ => v = .bool true
 | 22, v, _ => v = .bool true
 | 23, v, _ => v = Sg p q u w
 | 24, v, _ => v = .pointer (some ⟨A3, 2, none⟩)
 | 25, v, _ => v = Sp c d
 | 26, v, _ => v = PV c d 1
 | 27, v, _ => v = .bool false
 | 28, v, _ => v = .bool true
 | 29, v, _ => v = .bool true
 | 30, v, _ => v = .bool true
 | 31, v, _ => v = Sg a b c d
 | 32, v, _ => v = PV m1 m2 m3
 | 33, v, _ => v = .bool false
 | 34, v, _ => v = .bool true
 | 35, v, _ => v = .bool true
 | 36, v, _ => v = .bool true
 | _, _, _ => True
theorem VmbN.mono {A3 A4 : Nat} {a b c d p q u w m1 m2 m3 : Int} {B j : Nat} {v : Value} {W W2 : World} (_hB : Below W.heap.size W W2) (h : VmbN A3 A4 a b c d p q u w m1 m2 m3 B j v W) : VmbN A3 A4 a b c d p q u w m1 m2 m3 B j v W2 := by
 unfold VmbN at *
 split <;> simp only at h <;> first | exact h | trivial
theorem mbN {Q : Exit → Act → World → Prop} {A3 A4 : Nat} {a b c d p q u w m1 m2 m3 : Int} {A14 : Nat}  {w0 : World} {a0 : Act} {idq : Nat} {t0 t1 t2 t3 t4 t5 t6 t7 t8 t9 t10 t11 t12 t13 t14 t15 t16 t17 t18 t19 t20 t21 t22 t23 t24 t25 t26 t27 t28 t29 t30 t31 t32 t33 t34 t35 t36 : TypeId} {q0 q1 q2 q3 q4 q5 q6 q7 q8 q9 q10 q11 q12 q13 q14 q15 q16 q17 q18 q19 q20 q21 q22 q23 q24 q25 q26 q27 q28 q29 q30 q31 q32 q33 q34 q35 q36 : String}
   (hp1 : ∀ w', Calls Tryz.prog 11 #[Sp p q] w' (VP (PV p q 1) w')) (hp2 : ∀ w', Calls Tryz.prog 11 #[Sp u w] w' (VP (PV u w 1) w')) (hp3 : ∀ w', Calls Tryz.prog 11 #[Sp a b] w' (VP (PV a b 1) w')) (hp4 : ∀ w', Calls Tryz.prog 11 #[Sp c d] w' (VP (PV c d 1) w')) (o1 : ∀ w', Calls Tryz.prog 16 #[Sg a b c d, PV p q 1] w' (VP (.bool false) w')) (o2 : ∀ w', Calls Tryz.prog 16 #[Sg a b c d, PV u w 1] w' (VP (.bool false) w')) (o3 : ∀ w', Calls Tryz.prog 16 #[Sg p q u w, PV a b 1] w' (VP (.bool false) w')) (o4 : ∀ w', Calls Tryz.prog 16 #[Sg p q u w, PV c d 1] w' (VP (.bool false) w')) (o5 : ∀ w', Calls Tryz.prog 16 #[Sg a b c d, PV m1 m2 m3] w' (VP (.bool false) w')) (h3 : a0.tmps[3]? = some (.pointer (some ⟨A3, 0, none⟩))) (h4 : a0.tmps[4]? = some (.pointer (some ⟨A4, 0, none⟩))) (h14 : a0.tmps[14]? = some (.pointer (some ⟨A14, 0, none⟩))) (k0 : w0.cell? ⟨A3, 0, none⟩ = some (.int .i64 a)) (l0 : (⟨A3, 0, none⟩ : Addr).block < w0.heap.size) (k1 : w0.cell? ⟨A3, 1, none⟩ = some (.int .i64 b)) (l1 : (⟨A3, 1, none⟩ : Addr).block < w0.heap.size) (k2 : w0.cell? ⟨A3, 2, none⟩ = some (.int .i64 c)) (l2 : (⟨A3, 2, none⟩ : Addr).block < w0.heap.size) (k3 : w0.cell? ⟨A3, 3, none⟩ = some (.int .i64 d)) (l3 : (⟨A3, 3, none⟩ : Addr).block < w0.heap.size) (k4 : w0.cell? ⟨A4, 0, none⟩ = some (.int .i64 p)) (l4 : (⟨A4, 0, none⟩ : Addr).block < w0.heap.size) (k5 : w0.cell? ⟨A4, 1, none⟩ = some (.int .i64 q)) (l5 : (⟨A4, 1, none⟩ : Addr).block < w0.heap.size) (k6 : w0.cell? ⟨A4, 2, none⟩ = some (.int .i64 u)) (l6 : (⟨A4, 2, none⟩ : Addr).block < w0.heap.size) (k7 : w0.cell? ⟨A4, 3, none⟩ = some (.int .i64 w)) (l7 : (⟨A4, 3, none⟩ : Addr).block < w0.heap.size) (k8 : w0.cell? ⟨A14, 0, none⟩ = some (.int .u64 (ww3 m1))) (l8 : (⟨A14, 0, none⟩ : Addr).block < w0.heap.size) (k9 : w0.cell? ⟨A14, 1, none⟩ = some (.int .u64 (ww2 m1))) (l9 : (⟨A14, 1, none⟩ : Addr).block < w0.heap.size) (k10 : w0.cell? ⟨A14, 2, none⟩ = some (.int .u64 (ww1 m1))) (l10 : (⟨A14, 2, none⟩ : Addr).block < w0.heap.size) (k11 : w0.cell? ⟨A14, 3, none⟩ = some (.int .u64 (ww0 m1))) (l11 : (⟨A14, 3, none⟩ : Addr).block < w0.heap.size) (k12 : w0.cell? ⟨A14, 4, none⟩ = some (.int .u64 (ww3 m2))) (l12 : (⟨A14, 4, none⟩ : Addr).block < w0.heap.size) (k13 : w0.cell? ⟨A14, 5, none⟩ = some (.int .u64 (ww2 m2))) (l13 : (⟨A14, 5, none⟩ : Addr).block < w0.heap.size) (k14 : w0.cell? ⟨A14, 6, none⟩ = some (.int .u64 (ww1 m2))) (l14 : (⟨A14, 6, none⟩ : Addr).block < w0.heap.size) (k15 : w0.cell? ⟨A14, 7, none⟩ = some (.int .u64 (ww0 m2))) (l15 : (⟨A14, 7, none⟩ : Addr).block < w0.heap.size) (k16 : w0.cell? ⟨A14, 8, none⟩ = some (.int .u64 (ww3 m3))) (l16 : (⟨A14, 8, none⟩ : Addr).block < w0.heap.size) (k17 : w0.cell? ⟨A14, 9, none⟩ = some (.int .u64 (ww2 m3))) (l17 : (⟨A14, 9, none⟩ : Addr).block < w0.heap.size) (k18 : w0.cell? ⟨A14, 10, none⟩ = some (.int .u64 (ww1 m3))) (l18 : (⟨A14, 10, none⟩ : Addr).block < w0.heap.size) (k19 : w0.cell? ⟨A14, 11, none⟩ = some (.int .u64 (ww0 m3))) (l19 : (⟨A14, 11, none⟩ : Addr).block < w0.heap.size) (hz : a0.tmps.size = 181)
   (hQ : ∀ aq W, aq.tmps.size = a0.tmps.size → aq.defers = a0.defers → (∀ e, e ∉ ([145, 146, 147, 148, 149, 150, 151, 152, 153, 154, 155, 156, 157, 158, 159, 160, 161, 162, 163, 164, 165, 166, 167, 168, 169, 170, 171, 172, 173, 174, 175, 176, 177, 178, 179, 180, 2] : List Nat) → aq.tmps[e]? = a0.tmps[e]?) → VmbN A3 A4 a b c d p q u w m1 m2 m3 w0.heap.size 36 (aq.tmps.getD 2 undef) W → Below w0.heap.size w0 W → Q .normal aq W) :
   (Code.region idq #[{ dst := some 145, op := Op.load 27 (.tmp 3), type := t0, pos := q0, after := #[], guard := none },
   { dst := some 146, op := Op.fieldAddr 27 (.tmp 4) 0, type := t1, pos := q1, after := #[], guard := none },
   { dst := some 147, op := Op.load 25 (.tmp 146), type := t2, pos := q2, after := #[⟨1, .data⟩], guard := none },
   { dst := some 148, op := Op.call { callee := Callee.value (Operand.func 11), args := #[.tmp 147], argTypes := #[25] }, type := t3, pos := q3, after := #[⟨2, .data⟩], guard := none },
   { dst := some 149, op := Op.call { callee := Callee.value (Operand.func 16), args := #[.tmp 145, .tmp 148], argTypes := #[27, 40] }, type := t4, pos := q4, after := #[⟨0, .data⟩, ⟨3, .data⟩, ⟨3, .chain⟩], guard := none },
   { dst := some 150, op := Op.unOp UnOp.not 4 (.tmp 149), type := t5, pos := q5, after := #[⟨4, .data⟩], guard := none },
   { dst := some 151, op := Op.move (.tmp 150), type := t6, pos := q6, after := #[⟨5, .data⟩, ⟨4, .chain⟩], guard := none },
   { dst := some 152, op := Op.load 27 (.tmp 3), type := t7, pos := q7, after := #[⟨6, .guard⟩], guard := some (6, true) },
   { dst := some 153, op := Op.fieldAddr 27 (.tmp 4) 1, type := t8, pos := q8, after := #[⟨6, .guard⟩], guard := some (6, true) },
   { dst := some 154, op := Op.load 25 (.tmp 153), type := t9, pos := q9, after := #[⟨8, .data⟩, ⟨6, .guard⟩], guard := some (6, true) },
   { dst := some 155, op := Op.call { callee := Callee.value (Operand.func 11), args := #[.tmp 154], argTypes := #[25] }, type := t10, pos := q10, after := #[⟨9, .data⟩, ⟨6, .chain⟩, ⟨6, .guard⟩], guard := some (6, true) },
   { dst := some 156, op := Op.call { callee := Callee.value (Operand.func 16), args := #[.tmp 152, .tmp 155], argTypes := #[27, 40] }, type := t11, pos := q11, after := #[⟨7, .data⟩, ⟨10, .data⟩, ⟨10, .chain⟩, ⟨6, .guard⟩], guard := some (6, true) },
   { dst := some 157, op := Op.unOp UnOp.not 4 (.tmp 156), type := t12, pos := q12, after := #[⟨11, .data⟩, ⟨6, .guard⟩], guard := some (6, true) },
   { dst := some 158, op := Op.pick (.tmp 151) (.tmp 157) (Operand.const (Value.bool false)), type := t13, pos := q13, after := #[⟨6, .data⟩, ⟨12, .data⟩], guard := none },
   { dst := some 159, op := Op.move (.tmp 158), type := t14, pos := q14, after := #[⟨13, .data⟩, ⟨11, .chain⟩], guard := none },
   { dst := some 160, op := Op.load 27 (.tmp 4), type := t15, pos := q15, after := #[⟨14, .guard⟩], guard := some (14, true) },
   { dst := some 161, op := Op.fieldAddr 27 (.tmp 3) 0, type := t16, pos := q16, after := #[⟨14, .guard⟩], guard := some (14, true) },
   { dst := some 162, op := Op.load 25 (.tmp 161), type := t17, pos := q17, after := #[⟨16, .data⟩, ⟨14, .guard⟩], guard := some (14, true) },
   { dst := some 163, op := Op.call { callee := Callee.value (Operand.func 11), args := #[.tmp 162], argTypes := #[25] }, type := t18, pos := q18, after := #[⟨17, .data⟩, ⟨14, .chain⟩, ⟨14, .guard⟩], guard := some (14, true) },
   { dst := some 164, op := Op.call { callee := Callee.value (Operand.func 16), args := #[.tmp 160, .tmp 163], argTypes := #[27, 40] }, type := t19, pos := q19, after := #[⟨15, .data⟩, ⟨18, .data⟩, ⟨18, .chain⟩, ⟨14, .guard⟩], guard := some (14, true) },
   { dst := some 165, op := Op.unOp UnOp.not 4 (.tmp 164), type := t20, pos := q20, after := #[⟨19, .data⟩, ⟨14, .guard⟩], guard := some (14, true) },
   { dst := some 166, op := Op.pick (.tmp 159) (.tmp 165) (Operand.const (Value.bool false)), type := t21, pos := q21, after := #[⟨14, .data⟩, ⟨20, .data⟩], guard := none },
   { dst := some 167, op := Op.move (.tmp 166), type := t22, pos := q22, after := #[⟨21, .data⟩, ⟨19, .chain⟩], guard := none },
   { dst := some 168, op := Op.load 27 (.tmp 4), type := t23, pos := q23, after := #[⟨22, .guard⟩], guard := some (22, true) },
   { dst := some 169, op := Op.fieldAddr 27 (.tmp 3) 1, type := t24, pos := q24, after := #[⟨22, .guard⟩], guard := some (22, true) },
   { dst := some 170, op := Op.load 25 (.tmp 169), type := t25, pos := q25, after := #[⟨24, .data⟩, ⟨22, .guard⟩], guard := some (22, true) },
   { dst := some 171, op := Op.call { callee := Callee.value (Operand.func 11), args := #[.tmp 170], argTypes := #[25] }, type := t26, pos := q26, after := #[⟨25, .data⟩, ⟨22, .chain⟩, ⟨22, .guard⟩], guard := some (22, true) },
   { dst := some 172, op := Op.call { callee := Callee.value (Operand.func 16), args := #[.tmp 168, .tmp 171], argTypes := #[27, 40] }, type := t27, pos := q27, after := #[⟨23, .data⟩, ⟨26, .data⟩, ⟨26, .chain⟩, ⟨22, .guard⟩], guard := some (22, true) },
   { dst := some 173, op := Op.unOp UnOp.not 4 (.tmp 172), type := t28, pos := q28, after := #[⟨27, .data⟩, ⟨22, .guard⟩], guard := some (22, true) },
   { dst := some 174, op := Op.pick (.tmp 167) (.tmp 173) (Operand.const (Value.bool false)), type := t29, pos := q29, after := #[⟨22, .data⟩, ⟨28, .data⟩], guard := none },
   { dst := some 175, op := Op.move (.tmp 174), type := t30, pos := q30, after := #[⟨29, .data⟩, ⟨27, .chain⟩], guard := none },
   { dst := some 176, op := Op.load 27 (.tmp 3), type := t31, pos := q31, after := #[⟨30, .guard⟩], guard := some (30, true) },
   { dst := some 177, op := Op.load 40 (.tmp 14), type := t32, pos := q32, after := #[⟨30, .guard⟩], guard := some (30, true) },
   { dst := some 178, op := Op.call { callee := Callee.value (Operand.func 16), args := #[.tmp 176, .tmp 177], argTypes := #[27, 40] }, type := t33, pos := q33, after := #[⟨31, .data⟩, ⟨32, .data⟩, ⟨30, .chain⟩, ⟨30, .guard⟩], guard := some (30, true) },
   { dst := some 179, op := Op.unOp UnOp.not 4 (.tmp 178), type := t34, pos := q34, after := #[⟨33, .data⟩, ⟨30, .guard⟩], guard := some (30, true) },
   { dst := some 180, op := Op.pick (.tmp 175) (.tmp 179) (Operand.const (Value.bool false)), type := t35, pos := q35, after := #[⟨30, .data⟩, ⟨34, .data⟩], guard := none },
   { dst := some 2, op := Op.assign (.tmp 180), type := t36, pos := q36, after := #[⟨35, .data⟩, ⟨33, .chain⟩, ⟨0, .phase⟩, ⟨1, .phase⟩, ⟨2, .phase⟩, ⟨3, .phase⟩, ⟨4, .phase⟩, ⟨5, .phase⟩, ⟨6, .phase⟩, ⟨7, .phase⟩, ⟨8, .phase⟩, ⟨9, .phase⟩, ⟨10, .phase⟩, ⟨11, .phase⟩, ⟨12, .phase⟩, ⟨13, .phase⟩, ⟨14, .phase⟩, ⟨15, .phase⟩, ⟨16, .phase⟩, ⟨17, .phase⟩, ⟨18, .phase⟩, ⟨19, .phase⟩, ⟨20, .phase⟩, ⟨21, .phase⟩, ⟨22, .phase⟩, ⟨23, .phase⟩, ⟨24, .phase⟩, ⟨25, .phase⟩, ⟨26, .phase⟩, ⟨27, .phase⟩, ⟨28, .phase⟩, ⟨29, .phase⟩, ⟨30, .phase⟩, ⟨31, .phase⟩, ⟨32, .phase⟩, ⟨33, .phase⟩, ⟨34, .phase⟩, ⟨35, .phase⟩], guard := none }] true).wp Tryz.prog Q a0 w0 := by
 have hS : distS [some 145, some 146, some 147, some 148, some 149, some 150, some 151, some 152, some 153, some 154, some 155, some 156, some 157, some 158, some 159, some 160, some 161, some 162, some 163, some 164, some 165, some 166, some 167, some 168, some 169, some 170, some 171, some 172, some 173, some 174, some 175, some 176, some 177, some 178, some 179, some 180, some 2] = true := rfl
 refine wp_region_q (by kernel_rfl) w0.heap.size [some 145, some 146, some 147, some 148, some 149, some 150, some 151, some 152, some 153, some 154, some 155, some 156, some 157, some 158, some 159, some 160, some 161, some 162, some 163, some 164, some 165, some 166, some 167, some 168, some 169, some 170, some 171, some 172, some 173, some 174, some 175, some 176, some 177, some 178, some 179, some 180, some 2] (VmbN A3 A4 a b c d p q u w m1 m2 m3 w0.heap.size) rfl ?_ ?_
 · intro Q lq aq W iq oq hJ hl ho hall
   have hJ2 := hJ
   obtain ⟨z1, z2, z3, z4, z5, z6, z7⟩ := hJ
   have g3 : aq.tmps.getD 3 undef = .pointer (some ⟨A3, 0, none⟩) := by rw [Array.getD_eq_getD_getElem?, z4 3 (by decide), h3]; rfl
   have g4 : aq.tmps.getD 4 undef = .pointer (some ⟨A4, 0, none⟩) := by rw [Array.getD_eq_getD_getElem?, z4 4 (by decide), h4]; rfl
   have g14 : aq.tmps.getD 14 undef = .pointer (some ⟨A14, 0, none⟩) := by rw [Array.getD_eq_getD_getElem?, z4 14 (by decide), h14]; rfl
   have c0 : W.cell? ⟨A3, 0, none⟩ = some (.int .i64 a) := (z5.cell l0).trans k0
   have c1 : W.cell? ⟨A3, 1, none⟩ = some (.int .i64 b) := (z5.cell l1).trans k1
   have c2 : W.cell? ⟨A3, 2, none⟩ = some (.int .i64 c) := (z5.cell l2).trans k2
   have c3 : W.cell? ⟨A3, 3, none⟩ = some (.int .i64 d) := (z5.cell l3).trans k3
   have c4 : W.cell? ⟨A4, 0, none⟩ = some (.int .i64 p) := (z5.cell l4).trans k4
   have c5 : W.cell? ⟨A4, 1, none⟩ = some (.int .i64 q) := (z5.cell l5).trans k5
   have c6 : W.cell? ⟨A4, 2, none⟩ = some (.int .i64 u) := (z5.cell l6).trans k6
   have c7 : W.cell? ⟨A4, 3, none⟩ = some (.int .i64 w) := (z5.cell l7).trans k7
   have c8 : W.cell? ⟨A14, 0, none⟩ = some (.int .u64 (ww3 m1)) := (z5.cell l8).trans k8
   have c9 : W.cell? ⟨A14, 1, none⟩ = some (.int .u64 (ww2 m1)) := (z5.cell l9).trans k9
   have c10 : W.cell? ⟨A14, 2, none⟩ = some (.int .u64 (ww1 m1)) := (z5.cell l10).trans k10
   have c11 : W.cell? ⟨A14, 3, none⟩ = some (.int .u64 (ww0 m1)) := (z5.cell l11).trans k11
   have c12 : W.cell? ⟨A14, 4, none⟩ = some (.int .u64 (ww3 m2)) := (z5.cell l12).trans k12
   have c13 : W.cell? ⟨A14, 5, none⟩ = some (.int .u64 (ww2 m2)) := (z5.cell l13).trans k13
   have c14 : W.cell? ⟨A14, 6, none⟩ = some (.int .u64 (ww1 m2)) := (z5.cell l14).trans k14
   have c15 : W.cell? ⟨A14, 7, none⟩ = some (.int .u64 (ww0 m2)) := (z5.cell l15).trans k15
   have c16 : W.cell? ⟨A14, 8, none⟩ = some (.int .u64 (ww3 m3)) := (z5.cell l16).trans k16
   have c17 : W.cell? ⟨A14, 9, none⟩ = some (.int .u64 (ww2 m3)) := (z5.cell l17).trans k17
   have c18 : W.cell? ⟨A14, 10, none⟩ = some (.int .u64 (ww1 m3)) := (z5.cell l18).trans k18
   have c19 : W.cell? ⟨A14, 11, none⟩ = some (.int .u64 (ww0 m3)) := (z5.cell l19).trans k19
   match iq, ho with
   | 0, ho =>
     cases ho
     refine wpOp_of rfl rfl ?_
     have hK := fun v W2 hW hT hv => hJ2.put hS 0 145 rfl (by omega) (W' := W2) hW hT v hv
     clear ho hall hl hQ
     generalize InvQ _ _ _ w0 a0 (lq.setIfInBounds 0 true) = K at hK ⊢
     clear hJ2 hS z1 z2 z3 z4 z6 z7
     go_simp
     exact hK _ _ z5 (fun _ _ h => h) rfl
   | 1, ho =>
     cases ho
     refine wpOp_of rfl rfl ?_
     have hK := fun v W2 hW hT hv => hJ2.put hS 1 146 rfl (by omega) (W' := W2) hW hT v hv
     clear ho hall hl hQ
     generalize InvQ _ _ _ w0 a0 (lq.setIfInBounds 1 true) = K at hK ⊢
     clear hJ2 hS z1 z2 z3 z4 z6 z7
     go_simp
     exact hK _ _ z5 (fun _ _ h => h) rfl
   | 2, ho =>
     cases ho
     refine wpOp_of rfl rfl ?_
     have f1 : (aq.tmps.getD 146 undef) = .pointer (some ⟨A4, 0, none⟩) := z6 1 146 (hall ⟨1, .data⟩ (by simp) rfl) rfl
     have hK := fun v W2 hW hT hv => hJ2.put hS 2 147 rfl (by omega) (W' := W2) hW hT v hv
     clear ho hall hl hQ
     generalize InvQ _ _ _ w0 a0 (lq.setIfInBounds 2 true) = K at hK ⊢
     clear hJ2 hS z1 z2 z3 z4 z6 z7
     go_simp
     exact hK _ _ z5 (fun _ _ h => h) rfl
   | 3, ho =>
     cases ho
     refine wpOp_of rfl rfl ?_
     have f2 : (aq.tmps.getD 147 undef) = Sp p q := z6 2 147 (hall ⟨2, .data⟩ (by simp) rfl) rfl
     have hK := fun v W2 hW hT hv => hJ2.put hS 3 148 rfl (by omega) (W' := W2) hW hT v hv
     clear ho hall hl hQ
     generalize InvQ _ _ _ w0 a0 (lq.setIfInBounds 3 true) = K at hK ⊢
     clear hJ2 hS z1 z2 z3 z4 z6 z7
     go_simp
     refine (hp1 W).mono ?_
     rintro e v1 ⟨rfl, hBv⟩
     exact hK _ _ (z5.trans (hBv.mono z5.size)) (fun _ _ h => h.mono hBv) rfl
   | 4, ho =>
     cases ho
     refine wpOp_of rfl rfl ?_
     have f0 : (aq.tmps.getD 145 undef) = Sg a b c d := z6 0 145 (hall ⟨0, .data⟩ (by simp) rfl) rfl
     have f3 : (aq.tmps.getD 148 undef) = PV p q 1 := z6 3 148 (hall ⟨3, .data⟩ (by simp) rfl) rfl
     have hK := fun v W2 hW hT hv => hJ2.put hS 4 149 rfl (by omega) (W' := W2) hW hT v hv
     clear ho hall hl hQ
     generalize InvQ _ _ _ w0 a0 (lq.setIfInBounds 4 true) = K at hK ⊢
     clear hJ2 hS z1 z2 z3 z4 z6 z7
     go_simp
     refine (o1 W).mono ?_
     rintro e v1 ⟨rfl, hBv⟩
     exact hK _ _ (z5.trans (hBv.mono z5.size)) (fun _ _ h => h.mono hBv) rfl
   | 5, ho =>
     cases ho
     refine wpOp_of rfl rfl ?_
     have f4 : (aq.tmps.getD 149 undef) = .bool false := z6 4 149 (hall ⟨4, .data⟩ (by simp) rfl) rfl
     have hK := fun v W2 hW hT hv => hJ2.put hS 5 150 rfl (by omega) (W' := W2) hW hT v hv
     clear ho hall hl hQ
     generalize InvQ _ _ _ w0 a0 (lq.setIfInBounds 5 true) = K at hK ⊢
     clear hJ2 hS z1 z2 z3 z4 z6 z7
     go_simp
     exact hK _ _ z5 (fun _ _ h => h) rfl
   | 6, ho =>
     cases ho
     refine wpOp_of rfl rfl ?_
     have f5 : (aq.tmps.getD 150 undef) = .bool true := z6 5 150 (hall ⟨5, .data⟩ (by simp) rfl) rfl
     have hK := fun v W2 hW hT hv => hJ2.put hS 6 151 rfl (by omega) (W' := W2) hW hT v hv
     clear ho hall hl hQ
     generalize InvQ _ _ _ w0 a0 (lq.setIfInBounds 6 true) = K at hK ⊢
     clear hJ2 hS z1 z2 z3 z4 z6 z7
     go_simp
     exact hK _ _ z5 (fun _ _ h => h) rfl
   | 7, ho =>
     cases ho
     have fg : aq.tmps.getD 151 undef = .bool true := z6 6 151 (hall ⟨6, .guard⟩ (by simp) rfl) rfl
     refine wpOp_on rfl rfl rfl rfl fg ?_
     have hK := fun v W2 hW hT hv => hJ2.put hS 7 152 rfl (by omega) (W' := W2) hW hT v hv
     clear ho hall hl hQ
     generalize InvQ _ _ _ w0 a0 (lq.setIfInBounds 7 true) = K at hK ⊢
     clear hJ2 hS z1 z2 z3 z4 z6 z7
     go_simp
     exact hK _ _ z5 (fun _ _ h => h) rfl
   | 8, ho =>
     cases ho
     have fg : aq.tmps.getD 151 undef = .bool true := z6 6 151 (hall ⟨6, .guard⟩ (by simp) rfl) rfl
     refine wpOp_on rfl rfl rfl rfl fg ?_
     have hK := fun v W2 hW hT hv => hJ2.put hS 8 153 rfl (by omega) (W' := W2) hW hT v hv
     clear ho hall hl hQ
     generalize InvQ _ _ _ w0 a0 (lq.setIfInBounds 8 true) = K at hK ⊢
     clear hJ2 hS z1 z2 z3 z4 z6 z7
     go_simp
     exact hK _ _ z5 (fun _ _ h => h) rfl
   | 9, ho =>
     cases ho
     have fg : aq.tmps.getD 151 undef = .bool true := z6 6 151 (hall ⟨6, .guard⟩ (by simp) rfl) rfl
     refine wpOp_on rfl rfl rfl rfl fg ?_
     have f8 : (aq.tmps.getD 153 undef) = .pointer (some ⟨A4, 2, none⟩) := z6 8 153 (hall ⟨8, .data⟩ (by simp) rfl) rfl
     have hK := fun v W2 hW hT hv => hJ2.put hS 9 154 rfl (by omega) (W' := W2) hW hT v hv
     clear ho hall hl hQ
     generalize InvQ _ _ _ w0 a0 (lq.setIfInBounds 9 true) = K at hK ⊢
     clear hJ2 hS z1 z2 z3 z4 z6 z7
     go_simp
     exact hK _ _ z5 (fun _ _ h => h) rfl
   | 10, ho =>
     cases ho
     have fg : aq.tmps.getD 151 undef = .bool true := z6 6 151 (hall ⟨6, .guard⟩ (by simp) rfl) rfl
     refine wpOp_on rfl rfl rfl rfl fg ?_
     have f9 : (aq.tmps.getD 154 undef) = Sp u w := z6 9 154 (hall ⟨9, .data⟩ (by simp) rfl) rfl
     have hK := fun v W2 hW hT hv => hJ2.put hS 10 155 rfl (by omega) (W' := W2) hW hT v hv
     clear ho hall hl hQ
     generalize InvQ _ _ _ w0 a0 (lq.setIfInBounds 10 true) = K at hK ⊢
     clear hJ2 hS z1 z2 z3 z4 z6 z7
     go_simp
     refine (hp2 W).mono ?_
     rintro e v1 ⟨rfl, hBv⟩
     exact hK _ _ (z5.trans (hBv.mono z5.size)) (fun _ _ h => h.mono hBv) rfl
   | 11, ho =>
     cases ho
     have fg : aq.tmps.getD 151 undef = .bool true := z6 6 151 (hall ⟨6, .guard⟩ (by simp) rfl) rfl
     refine wpOp_on rfl rfl rfl rfl fg ?_
     have f7 : (aq.tmps.getD 152 undef) = Sg a b c d := z6 7 152 (hall ⟨7, .data⟩ (by simp) rfl) rfl
     have f10 : (aq.tmps.getD 155 undef) = PV u w 1 := z6 10 155 (hall ⟨10, .data⟩ (by simp) rfl) rfl
     have hK := fun v W2 hW hT hv => hJ2.put hS 11 156 rfl (by omega) (W' := W2) hW hT v hv
     clear ho hall hl hQ
     generalize InvQ _ _ _ w0 a0 (lq.setIfInBounds 11 true) = K at hK ⊢
     clear hJ2 hS z1 z2 z3 z4 z6 z7
     go_simp
     refine (o2 W).mono ?_
     rintro e v1 ⟨rfl, hBv⟩
     exact hK _ _ (z5.trans (hBv.mono z5.size)) (fun _ _ h => h.mono hBv) rfl
   | 12, ho =>
     cases ho
     have fg : aq.tmps.getD 151 undef = .bool true := z6 6 151 (hall ⟨6, .guard⟩ (by simp) rfl) rfl
     refine wpOp_on rfl rfl rfl rfl fg ?_
     have f11 : (aq.tmps.getD 156 undef) = .bool false := z6 11 156 (hall ⟨11, .data⟩ (by simp) rfl) rfl
     have hK := fun v W2 hW hT hv => hJ2.put hS 12 157 rfl (by omega) (W' := W2) hW hT v hv
     clear ho hall hl hQ
     generalize InvQ _ _ _ w0 a0 (lq.setIfInBounds 12 true) = K at hK ⊢
     clear hJ2 hS z1 z2 z3 z4 z6 z7
     go_simp
     exact hK _ _ z5 (fun _ _ h => h) rfl
   | 13, ho =>
     cases ho
     refine wpOp_of rfl rfl ?_
     have f6 : (aq.tmps.getD 151 undef) = .bool true := z6 6 151 (hall ⟨6, .data⟩ (by simp) rfl) rfl
     have f12 : (aq.tmps.getD 157 undef) = .bool true := z6 12 157 (hall ⟨12, .data⟩ (by simp) rfl) rfl
     have hK := fun v W2 hW hT hv => hJ2.put hS 13 158 rfl (by omega) (W' := W2) hW hT v hv
     clear ho hall hl hQ
     generalize InvQ _ _ _ w0 a0 (lq.setIfInBounds 13 true) = K at hK ⊢
     clear hJ2 hS z1 z2 z3 z4 z6 z7
     go_simp
     exact hK _ _ z5 (fun _ _ h => h) rfl
   | 14, ho =>
     cases ho
     refine wpOp_of rfl rfl ?_
     have f13 : (aq.tmps.getD 158 undef) = .bool true := z6 13 158 (hall ⟨13, .data⟩ (by simp) rfl) rfl
     have hK := fun v W2 hW hT hv => hJ2.put hS 14 159 rfl (by omega) (W' := W2) hW hT v hv
     clear ho hall hl hQ
     generalize InvQ _ _ _ w0 a0 (lq.setIfInBounds 14 true) = K at hK ⊢
     clear hJ2 hS z1 z2 z3 z4 z6 z7
     go_simp
     exact hK _ _ z5 (fun _ _ h => h) rfl
   | 15, ho =>
     cases ho
     have fg : aq.tmps.getD 159 undef = .bool true := z6 14 159 (hall ⟨14, .guard⟩ (by simp) rfl) rfl
     refine wpOp_on rfl rfl rfl rfl fg ?_
     have hK := fun v W2 hW hT hv => hJ2.put hS 15 160 rfl (by omega) (W' := W2) hW hT v hv
     clear ho hall hl hQ
     generalize InvQ _ _ _ w0 a0 (lq.setIfInBounds 15 true) = K at hK ⊢
     clear hJ2 hS z1 z2 z3 z4 z6 z7
     go_simp
     exact hK _ _ z5 (fun _ _ h => h) rfl
   | 16, ho =>
     cases ho
     have fg : aq.tmps.getD 159 undef = .bool true := z6 14 159 (hall ⟨14, .guard⟩ (by simp) rfl) rfl
     refine wpOp_on rfl rfl rfl rfl fg ?_
     have hK := fun v W2 hW hT hv => hJ2.put hS 16 161 rfl (by omega) (W' := W2) hW hT v hv
     clear ho hall hl hQ
     generalize InvQ _ _ _ w0 a0 (lq.setIfInBounds 16 true) = K at hK ⊢
     clear hJ2 hS z1 z2 z3 z4 z6 z7
     go_simp
     exact hK _ _ z5 (fun _ _ h => h) rfl
   | 17, ho =>
     cases ho
     have fg : aq.tmps.getD 159 undef = .bool true := z6 14 159 (hall ⟨14, .guard⟩ (by simp) rfl) rfl
     refine wpOp_on rfl rfl rfl rfl fg ?_
     have f16 : (aq.tmps.getD 161 undef) = .pointer (some ⟨A3, 0, none⟩) := z6 16 161 (hall ⟨16, .data⟩ (by simp) rfl) rfl
     have hK := fun v W2 hW hT hv => hJ2.put hS 17 162 rfl (by omega) (W' := W2) hW hT v hv
     clear ho hall hl hQ
     generalize InvQ _ _ _ w0 a0 (lq.setIfInBounds 17 true) = K at hK ⊢
     clear hJ2 hS z1 z2 z3 z4 z6 z7
     go_simp
     exact hK _ _ z5 (fun _ _ h => h) rfl
   | 18, ho =>
     cases ho
     have fg : aq.tmps.getD 159 undef = .bool true := z6 14 159 (hall ⟨14, .guard⟩ (by simp) rfl) rfl
     refine wpOp_on rfl rfl rfl rfl fg ?_
     have f17 : (aq.tmps.getD 162 undef) = Sp a b := z6 17 162 (hall ⟨17, .data⟩ (by simp) rfl) rfl
     have hK := fun v W2 hW hT hv => hJ2.put hS 18 163 rfl (by omega) (W' := W2) hW hT v hv
     clear ho hall hl hQ
     generalize InvQ _ _ _ w0 a0 (lq.setIfInBounds 18 true) = K at hK ⊢
     clear hJ2 hS z1 z2 z3 z4 z6 z7
     go_simp
     refine (hp3 W).mono ?_
     rintro e v1 ⟨rfl, hBv⟩
     exact hK _ _ (z5.trans (hBv.mono z5.size)) (fun _ _ h => h.mono hBv) rfl
   | 19, ho =>
     cases ho
     have fg : aq.tmps.getD 159 undef = .bool true := z6 14 159 (hall ⟨14, .guard⟩ (by simp) rfl) rfl
     refine wpOp_on rfl rfl rfl rfl fg ?_
     have f15 : (aq.tmps.getD 160 undef) = Sg p q u w := z6 15 160 (hall ⟨15, .data⟩ (by simp) rfl) rfl
     have f18 : (aq.tmps.getD 163 undef) = PV a b 1 := z6 18 163 (hall ⟨18, .data⟩ (by simp) rfl) rfl
     have hK := fun v W2 hW hT hv => hJ2.put hS 19 164 rfl (by omega) (W' := W2) hW hT v hv
     clear ho hall hl hQ
     generalize InvQ _ _ _ w0 a0 (lq.setIfInBounds 19 true) = K at hK ⊢
     clear hJ2 hS z1 z2 z3 z4 z6 z7
     go_simp
     refine (o3 W).mono ?_
     rintro e v1 ⟨rfl, hBv⟩
     exact hK _ _ (z5.trans (hBv.mono z5.size)) (fun _ _ h => h.mono hBv) rfl
   | 20, ho =>
     cases ho
     have fg : aq.tmps.getD 159 undef = .bool true := z6 14 159 (hall ⟨14, .guard⟩ (by simp) rfl) rfl
     refine wpOp_on rfl rfl rfl rfl fg ?_
     have f19 : (aq.tmps.getD 164 undef) = .bool false := z6 19 164 (hall ⟨19, .data⟩ (by simp) rfl) rfl
     have hK := fun v W2 hW hT hv => hJ2.put hS 20 165 rfl (by omega) (W' := W2) hW hT v hv
     clear ho hall hl hQ
     generalize InvQ _ _ _ w0 a0 (lq.setIfInBounds 20 true) = K at hK ⊢
     clear hJ2 hS z1 z2 z3 z4 z6 z7
     go_simp
     exact hK _ _ z5 (fun _ _ h => h) rfl
   | 21, ho =>
     cases ho
     refine wpOp_of rfl rfl ?_
     have f14 : (aq.tmps.getD 159 undef) = .bool true := z6 14 159 (hall ⟨14, .data⟩ (by simp) rfl) rfl
     have f20 : (aq.tmps.getD 165 undef) = .bool true := z6 20 165 (hall ⟨20, .data⟩ (by simp) rfl) rfl
     have hK := fun v W2 hW hT hv => hJ2.put hS 21 166 rfl (by omega) (W' := W2) hW hT v hv
     clear ho hall hl hQ
     generalize InvQ _ _ _ w0 a0 (lq.setIfInBounds 21 true) = K at hK ⊢
     clear hJ2 hS z1 z2 z3 z4 z6 z7
     go_simp
     exact hK _ _ z5 (fun _ _ h => h) rfl
   | 22, ho =>
     cases ho
     refine wpOp_of rfl rfl ?_
     have f21 : (aq.tmps.getD 166 undef) = .bool true := z6 21 166 (hall ⟨21, .data⟩ (by simp) rfl) rfl
     have hK := fun v W2 hW hT hv => hJ2.put hS 22 167 rfl (by omega) (W' := W2) hW hT v hv
     clear ho hall hl hQ
     generalize InvQ _ _ _ w0 a0 (lq.setIfInBounds 22 true) = K at hK ⊢
     clear hJ2 hS z1 z2 z3 z4 z6 z7
     go_simp
     exact hK _ _ z5 (fun _ _ h => h) rfl
   | 23, ho =>
     cases ho
     have fg : aq.tmps.getD 167 undef = .bool true := z6 22 167 (hall ⟨22, .guard⟩ (by simp) rfl) rfl
     refine wpOp_on rfl rfl rfl rfl fg ?_
     have hK := fun v W2 hW hT hv => hJ2.put hS 23 168 rfl (by omega) (W' := W2) hW hT v hv
     clear ho hall hl hQ
     generalize InvQ _ _ _ w0 a0 (lq.setIfInBounds 23 true) = K at hK ⊢
     clear hJ2 hS z1 z2 z3 z4 z6 z7
     go_simp
     exact hK _ _ z5 (fun _ _ h => h) rfl
   | 24, ho =>
     cases ho
     have fg : aq.tmps.getD 167 undef = .bool true := z6 22 167 (hall ⟨22, .guard⟩ (by simp) rfl) rfl
     refine wpOp_on rfl rfl rfl rfl fg ?_
     have hK := fun v W2 hW hT hv => hJ2.put hS 24 169 rfl (by omega) (W' := W2) hW hT v hv
     clear ho hall hl hQ
     generalize InvQ _ _ _ w0 a0 (lq.setIfInBounds 24 true) = K at hK ⊢
     clear hJ2 hS z1 z2 z3 z4 z6 z7
     go_simp
     exact hK _ _ z5 (fun _ _ h => h) rfl
   | 25, ho =>
     cases ho
     have fg : aq.tmps.getD 167 undef = .bool true := z6 22 167 (hall ⟨22, .guard⟩ (by simp) rfl) rfl
     refine wpOp_on rfl rfl rfl rfl fg ?_
     have f24 : (aq.tmps.getD 169 undef) = .pointer (some ⟨A3, 2, none⟩) := z6 24 169 (hall ⟨24, .data⟩ (by simp) rfl) rfl
     have hK := fun v W2 hW hT hv => hJ2.put hS 25 170 rfl (by omega) (W' := W2) hW hT v hv
     clear ho hall hl hQ
     generalize InvQ _ _ _ w0 a0 (lq.setIfInBounds 25 true) = K at hK ⊢
     clear hJ2 hS z1 z2 z3 z4 z6 z7
     go_simp
     exact hK _ _ z5 (fun _ _ h => h) rfl
   | 26, ho =>
     cases ho
     have fg : aq.tmps.getD 167 undef = .bool true := z6 22 167 (hall ⟨22, .guard⟩ (by simp) rfl) rfl
     refine wpOp_on rfl rfl rfl rfl fg ?_
     have f25 : (aq.tmps.getD 170 undef) = Sp c d := z6 25 170 (hall ⟨25, .data⟩ (by simp) rfl) rfl
     have hK := fun v W2 hW hT hv => hJ2.put hS 26 171 rfl (by omega) (W' := W2) hW hT v hv
     clear ho hall hl hQ
     generalize InvQ _ _ _ w0 a0 (lq.setIfInBounds 26 true) = K at hK ⊢
     clear hJ2 hS z1 z2 z3 z4 z6 z7
     go_simp
     refine (hp4 W).mono ?_
     rintro e v1 ⟨rfl, hBv⟩
     exact hK _ _ (z5.trans (hBv.mono z5.size)) (fun _ _ h => h.mono hBv) rfl
   | 27, ho =>
     cases ho
     have fg : aq.tmps.getD 167 undef = .bool true := z6 22 167 (hall ⟨22, .guard⟩ (by simp) rfl) rfl
     refine wpOp_on rfl rfl rfl rfl fg ?_
     have f23 : (aq.tmps.getD 168 undef) = Sg p q u w := z6 23 168 (hall ⟨23, .data⟩ (by simp) rfl) rfl
     have f26 : (aq.tmps.getD 171 undef) = PV c d 1 := z6 26 171 (hall ⟨26, .data⟩ (by simp) rfl) rfl
     have hK := fun v W2 hW hT hv => hJ2.put hS 27 172 rfl (by omega) (W' := W2) hW hT v hv
     clear ho hall hl hQ
     generalize InvQ _ _ _ w0 a0 (lq.setIfInBounds 27 true) = K at hK ⊢
     clear hJ2 hS z1 z2 z3 z4 z6 z7
     go_simp
     refine (o4 W).mono ?_
     rintro e v1 ⟨rfl, hBv⟩
     exact hK _ _ (z5.trans (hBv.mono z5.size)) (fun _ _ h => h.mono hBv) rfl
   | 28, ho =>
     cases ho
     have fg : aq.tmps.getD 167 undef = .bool true := z6 22 167 (hall ⟨22, .guard⟩ (by simp) rfl) rfl
     refine wpOp_on rfl rfl rfl rfl fg ?_
     have f27 : (aq.tmps.getD 172 undef) = .bool false := z6 27 172 (hall ⟨27, .data⟩ (by simp) rfl) rfl
     have hK := fun v W2 hW hT hv => hJ2.put hS 28 173 rfl (by omega) (W' := W2) hW hT v hv
     clear ho hall hl hQ
     generalize InvQ _ _ _ w0 a0 (lq.setIfInBounds 28 true) = K at hK ⊢
     clear hJ2 hS z1 z2 z3 z4 z6 z7
     go_simp
     exact hK _ _ z5 (fun _ _ h => h) rfl
   | 29, ho =>
     cases ho
     refine wpOp_of rfl rfl ?_
     have f22 : (aq.tmps.getD 167 undef) = .bool true := z6 22 167 (hall ⟨22, .data⟩ (by simp) rfl) rfl
     have f28 : (aq.tmps.getD 173 undef) = .bool true := z6 28 173 (hall ⟨28, .data⟩ (by simp) rfl) rfl
     have hK := fun v W2 hW hT hv => hJ2.put hS 29 174 rfl (by omega) (W' := W2) hW hT v hv
     clear ho hall hl hQ
     generalize InvQ _ _ _ w0 a0 (lq.setIfInBounds 29 true) = K at hK ⊢
     clear hJ2 hS z1 z2 z3 z4 z6 z7
     go_simp
     exact hK _ _ z5 (fun _ _ h => h) rfl
   | 30, ho =>
     cases ho
     refine wpOp_of rfl rfl ?_
     have f29 : (aq.tmps.getD 174 undef) = .bool true := z6 29 174 (hall ⟨29, .data⟩ (by simp) rfl) rfl
     have hK := fun v W2 hW hT hv => hJ2.put hS 30 175 rfl (by omega) (W' := W2) hW hT v hv
     clear ho hall hl hQ
     generalize InvQ _ _ _ w0 a0 (lq.setIfInBounds 30 true) = K at hK ⊢
     clear hJ2 hS z1 z2 z3 z4 z6 z7
     go_simp
     exact hK _ _ z5 (fun _ _ h => h) rfl
   | 31, ho =>
     cases ho
     have fg : aq.tmps.getD 175 undef = .bool true := z6 30 175 (hall ⟨30, .guard⟩ (by simp) rfl) rfl
     refine wpOp_on rfl rfl rfl rfl fg ?_
     have hK := fun v W2 hW hT hv => hJ2.put hS 31 176 rfl (by omega) (W' := W2) hW hT v hv
     clear ho hall hl hQ
     generalize InvQ _ _ _ w0 a0 (lq.setIfInBounds 31 true) = K at hK ⊢
     clear hJ2 hS z1 z2 z3 z4 z6 z7
     go_simp
     exact hK _ _ z5 (fun _ _ h => h) rfl
   | 32, ho =>
     cases ho
     have fg : aq.tmps.getD 175 undef = .bool true := z6 30 175 (hall ⟨30, .guard⟩ (by simp) rfl) rfl
     refine wpOp_on rfl rfl rfl rfl fg ?_
     have hK := fun v W2 hW hT hv => hJ2.put hS 32 177 rfl (by omega) (W' := W2) hW hT v hv
     clear ho hall hl hQ
     generalize InvQ _ _ _ w0 a0 (lq.setIfInBounds 32 true) = K at hK ⊢
     clear hJ2 hS z1 z2 z3 z4 z6 z7
     go_simp
     exact hK _ _ z5 (fun _ _ h => h) rfl
   | 33, ho =>
     cases ho
     have fg : aq.tmps.getD 175 undef = .bool true := z6 30 175 (hall ⟨30, .guard⟩ (by simp) rfl) rfl
     refine wpOp_on rfl rfl rfl rfl fg ?_
     have f31 : (aq.tmps.getD 176 undef) = Sg a b c d := z6 31 176 (hall ⟨31, .data⟩ (by simp) rfl) rfl
     have f32 : (aq.tmps.getD 177 undef) = PV m1 m2 m3 := z6 32 177 (hall ⟨32, .data⟩ (by simp) rfl) rfl
     have hK := fun v W2 hW hT hv => hJ2.put hS 33 178 rfl (by omega) (W' := W2) hW hT v hv
     clear ho hall hl hQ
     generalize InvQ _ _ _ w0 a0 (lq.setIfInBounds 33 true) = K at hK ⊢
     clear hJ2 hS z1 z2 z3 z4 z6 z7
     go_simp
     refine (o5 W).mono ?_
     rintro e v1 ⟨rfl, hBv⟩
     exact hK _ _ (z5.trans (hBv.mono z5.size)) (fun _ _ h => h.mono hBv) rfl
   | 34, ho =>
     cases ho
     have fg : aq.tmps.getD 175 undef = .bool true := z6 30 175 (hall ⟨30, .guard⟩ (by simp) rfl) rfl
     refine wpOp_on rfl rfl rfl rfl fg ?_
     have f33 : (aq.tmps.getD 178 undef) = .bool false := z6 33 178 (hall ⟨33, .data⟩ (by simp) rfl) rfl
     have hK := fun v W2 hW hT hv => hJ2.put hS 34 179 rfl (by omega) (W' := W2) hW hT v hv
     clear ho hall hl hQ
     generalize InvQ _ _ _ w0 a0 (lq.setIfInBounds 34 true) = K at hK ⊢
     clear hJ2 hS z1 z2 z3 z4 z6 z7
     go_simp
     exact hK _ _ z5 (fun _ _ h => h) rfl
   | 35, ho =>
     cases ho
     refine wpOp_of rfl rfl ?_
     have f30 : (aq.tmps.getD 175 undef) = .bool true := z6 30 175 (hall ⟨30, .data⟩ (by simp) rfl) rfl
     have f34 : (aq.tmps.getD 179 undef) = .bool true := z6 34 179 (hall ⟨34, .data⟩ (by simp) rfl) rfl
     have hK := fun v W2 hW hT hv => hJ2.put hS 35 180 rfl (by omega) (W' := W2) hW hT v hv
     clear ho hall hl hQ
     generalize InvQ _ _ _ w0 a0 (lq.setIfInBounds 35 true) = K at hK ⊢
     clear hJ2 hS z1 z2 z3 z4 z6 z7
     go_simp
     exact hK _ _ z5 (fun _ _ h => h) rfl
   | 36, ho =>
     cases ho
     refine wpOp_of rfl rfl ?_
     have f35 : (aq.tmps.getD 180 undef) = .bool true := z6 35 180 (hall ⟨35, .data⟩ (by simp) rfl) rfl
     have hK := fun v W2 hW hT hv => hJ2.put hS 36 2 rfl (by omega) (W' := W2) hW hT v hv
     clear ho hall hl hQ
     generalize InvQ _ _ _ w0 a0 (lq.setIfInBounds 36 true) = K at hK ⊢
     clear hJ2 hS z1 z2 z3 z4 z6 z7
     go_simp
     exact hK _ _ z5 (fun _ _ h => h) rfl
   | iq + 37, ho => simp at ho
 · intro lq aq W hJ hr
   obtain ⟨z1, z2, z3, z4, z5, z6, z7⟩ := hJ
   have hl := listed_of hr [0, 1, 2, 3, 4, 5, 6, 7, 8, 9, 10, 11, 12, 13, 14, 15, 16, 17, 18, 19, 20, 21, 22, 23, 24, 25, 26, 27, 28, 29, 30, 31, 32, 33, 34, 35, 36] [] (by simp) (by kernel_rfl) (by rw [z1]; decide)
   exact hQ aq W z2 z3 (fun e he => z4 e (by simpa using he)) (z6 36 2 (hl 36 (by simp)) rfl) z5
theorem getD_listedM {l : Array Bool} {i : Nat} (h : l.getD i true = false) : l.getD i false = false := by
 rcases Nat.lt_or_ge i l.size with h' | h'
 · simpa [Array.getD, h'] using h
 · simp [Array.getD, Nat.not_lt.2 h'] at h
def VmbM (_B4 A4 : Nat) (p q u w m1 m2 m3 : Int) (_B : Nat) : Nat → Value → World → Prop
 | 0, v, _ => v = .pointer (some ⟨A4, 0, none⟩)
 | 1, v, _ => v = .agg #[.int .i64 p, .int .i64 q]
 | 2, v, _ => v = (PV p q 1)
 | 3, v, _ => v = .pointer (some ⟨A4, 2, none⟩)
 | 4, v, _ => v = .agg #[.int .i64 u, .int .i64 w]
 | 5, v, _ => v = (PV u w 1)
 | 6, v, _ => v = .tuple #[(PV m1 m2 m3), .bool true]
 | 7, v, _ => v = .tuple #[(PV m1 m2 m3), .bool true]
 | 8, v, _ => v = (PV m1 m2 m3)
 | 9, v, _ => v = .bool true
 | 12, v, _ => v = .bool true
 | _, _, _ => True
theorem VmbM.mono {B4 A4 : Nat} {p q u w m1 m2 m3 : Int} {B j : Nat} {v : Value} {W W2 : World} (_hB : Below W.heap.size W W2) (h : VmbM B4 A4 p q u w m1 m2 m3 B j v W) : VmbM B4 A4 p q u w m1 m2 m3 B j v W2 := by
 unfold VmbM at *
 split <;> simp only at h <;> first | exact h | trivial
theorem VmbM.same {B4 A4 : Nat} {p q u w m1 m2 m3 : Int} {B j : Nat} {v : Value} {W W2 : World} (h : VmbM B4 A4 p q u w m1 m2 m3 B j v W) : VmbM B4 A4 p q u w m1 m2 m3 B j v W2 := by
 unfold VmbM at *
 split <;> simp only at h <;> first | exact h | trivial
def SmbM (B4 _A4 : Nat) (_p _q _u _w m1 m2 m3 : Int) (lz : Array Bool) (az : Act) (W : World) : Prop := (lz.getD 11 false = true → lz.getD 10 false = true) ∧ (lz.getD 10 false = true → ∃ gz, az.tmps.getD 14 undef = .pointer (some ⟨gz, 0, none⟩) ∧ B4 ≤ gz ∧ (∃ z0q z1q z2q z3q z4q z5q z6q z7q z8q z9q z10q z11q, Blk W gz [z0q, z1q, z2q, z3q, z4q, z5q, z6q, z7q, z8q, z9q, z10q, z11q]) ∧ (lz.getD 11 false = true → Blk W gz [.int .u64 (ww3 m1), .int .u64 (ww2 m1), .int .u64 (ww1 m1), .int .u64 (ww0 m1), .int .u64 (ww3 m2), .int .u64 (ww2 m2), .int .u64 (ww1 m2), .int .u64 (ww0 m2), .int .u64 (ww3 m3), .int .u64 (ww2 m3), .int .u64 (ww1 m3), .int .u64 (ww0 m3)]))
theorem SmbM.quiet {B4 A4 : Nat} {p q u w m1 m2 m3 : Int} {lz : Array Bool} {az : Act} {W : World} (h : SmbM B4 A4 p q u w m1 m2 m3 lz az W) (i d' : Nat) (v : Value) (hi : i ≠ 10 ∧ i ≠ 11) (hd : d' ≠ 14) : SmbM B4 A4 p q u w m1 m2 m3 (lz.setIfInBounds i true) (az.put (some d') v) W := by
 obtain ⟨h2, h3⟩ := h
 refine ⟨fun hl => ?_, fun hl => ?_⟩
 · rw [getD_set_ne false hi.2] at hl
   rw [getD_set_ne false hi.1]
   exact h2 hl
 · rw [getD_set_ne false hi.1] at hl
   obtain ⟨gz, e1, e2, e3, e4⟩ := h3 hl
   exact ⟨gz, by rw [put_getD_ne hd]; exact e1, e2, e3, fun h => e4 (by rw [getD_set_ne false hi.2] at h; exact h)⟩
theorem SmbM.step {B4 A4 : Nat} {p q u w m1 m2 m3 : Int} {lz : Array Bool} {az : Act} {W W2 : World} (h : SmbM B4 A4 p q u w m1 m2 m3 lz az W) (hB : Below W.heap.size W W2) : SmbM B4 A4 p q u w m1 m2 m3 lz az W2 := by
 obtain ⟨h2, h3⟩ := h
 refine ⟨h2, fun hl => ?_⟩
 obtain ⟨gz, e1, e2, ⟨z0q, z1q, z2q, z3q, z4q, z5q, z6q, z7q, z8q, z9q, z10q, z11q, e3⟩, e4⟩ := h3 hl
 exact ⟨gz, e1, e2, ⟨_, _, _, _, _, _, _, _, _, _, _, _, e3.step hB⟩, fun h => (e4 h).step hB⟩
theorem SmbM.nine {B4 A4 : Nat} {p q u w m1 m2 m3 : Int} {lz : Array Bool} {az : Act} {W : World} (h : SmbM B4 A4 p q u w m1 m2 m3 lz az W) (hn : lz.getD 10 true = false) {gz : Nat} (hs : 14 < az.tmps.size) (hz : B4 ≤ gz) (hb : Blk W gz [.int .u64 0, .int .u64 0, .int .u64 0, .int .u64 0, .int .u64 0, .int .u64 0, .int .u64 0, .int .u64 0, .int .u64 0, .int .u64 0, .int .u64 0, .int .u64 0]) : SmbM B4 A4 p q u w m1 m2 m3 (lz.setIfInBounds 10 true) (az.put (some 14) (.pointer (some ⟨gz, 0, none⟩))) W := by
 obtain ⟨h2, h3⟩ := h
 have hn' : lz.getD 10 false = false := getD_listedM hn
 refine ⟨fun hl => ?_, fun _ => ⟨gz, put_getD_same hs, hz, ⟨_, _, _, _, _, _, _, _, _, _, _, _, hb⟩, fun hl => ?_⟩⟩
 · rw [getD_set_ne false (by decide)] at hl
   rw [h2 hl] at hn'
   cases hn'
 · rw [getD_set_ne false (by decide)] at hl
   rw [h2 hl] at hn'
   cases hn'
theorem SmbM.ten {B4 A4 : Nat} {p q u w m1 m2 m3 : Int} {lz : Array Bool} {az : Act} {W W2 : World} (_ : SmbM B4 A4 p q u w m1 m2 m3 lz az W) (h9 : lz.getD 10 false = true) {gz : Nat} (e1 : az.tmps.getD 14 undef = .pointer (some ⟨gz, 0, none⟩)) (e2 : B4 ≤ gz) (hb : Blk W2 gz [.int .u64 (ww3 m1), .int .u64 (ww2 m1), .int .u64 (ww1 m1), .int .u64 (ww0 m1), .int .u64 (ww3 m2), .int .u64 (ww2 m2), .int .u64 (ww1 m2), .int .u64 (ww0 m2), .int .u64 (ww3 m3), .int .u64 (ww2 m3), .int .u64 (ww1 m3), .int .u64 (ww0 m3)]) : SmbM B4 A4 p q u w m1 m2 m3 (lz.setIfInBounds 11 true) az W2 := by
 refine ⟨fun _ => ?_, fun _ => ⟨gz, e1, e2, ⟨_, _, _, _, _, _, _, _, _, _, _, _, hb⟩, fun _ => hb⟩⟩
 rw [getD_set_ne false (by decide)]; exact h9
def JmbM (B4 A4 : Nat) (p q u w m1 m2 m3 : Int) (w0 : World) (a0 : Act) (lz : Array Bool) (az : Act) (W : World) : Prop := InvQ (w0.heap.size) [some 136, some 137, some 138, some 139, some 140, some 141, some 142, some 135, some 143, some 144, some 14, none, some 15] (VmbM B4 A4 p q u w m1 m2 m3 (w0.heap.size)) w0 a0 lz az W ∧ SmbM B4 A4 p q u w m1 m2 m3 lz az W
theorem mbM {Q : Exit → Act → World → Prop} {B4 A4 : Nat} {p q u w m1 m2 m3 : Int}  {w0 : World} {a0 : Act} {idq : Nat} {t0 t1 t2 t3 t4 t5 t6 t7 t8 t9 t10 t11 t12 : TypeId} {q0 q1 q2 q3 q4 q5 q6 q7 q8 q9 q10 q11 q12 : String}
   (hB4 : B4 = w0.heap.size) (hp1 : ∀ w', Calls Tryz.prog 11 #[.agg #[.int .i64 p, .int .i64 q]] w' (VP ((PV p q 1)) w')) (hp2 : ∀ w', Calls Tryz.prog 11 #[.agg #[.int .i64 u, .int .i64 w]] w' (VP ((PV u w 1)) w')) (hM : ∀ w', Calls Tryz.prog 12 #[(PV p q 1), (PV u w 1)] w' (VP (.tuple #[(PV m1 m2 m3), .bool true]) w')) (h4 : a0.tmps[4]? = some (.pointer (some ⟨A4, 0, none⟩))) (k0 : w0.cell? ⟨A4, 0, none⟩ = some (.int .i64 p)) (l0 : (⟨A4, 0, none⟩ : Addr).block < w0.heap.size) (k1 : w0.cell? ⟨A4, 1, none⟩ = some (.int .i64 q)) (l1 : (⟨A4, 1, none⟩ : Addr).block < w0.heap.size) (k2 : w0.cell? ⟨A4, 2, none⟩ = some (.int .i64 u)) (l2 : (⟨A4, 2, none⟩ : Addr).block < w0.heap.size) (k3 : w0.cell? ⟨A4, 3, none⟩ = some (.int .i64 w)) (l3 : (⟨A4, 3, none⟩ : Addr).block < w0.heap.size) (hz : a0.tmps.size = 181)
   (hQ : ∀ aq W, aq.tmps.size = a0.tmps.size → aq.defers = a0.defers → (∀ e, e ∉ ([136, 137, 138, 139, 140, 141, 142, 135, 143, 144, 14, 15] : List Nat) → aq.tmps[e]? = a0.tmps[e]?) → VmbM B4 A4 p q u w m1 m2 m3 (w0.heap.size) 11 undef W → VmbM B4 A4 p q u w m1 m2 m3 (w0.heap.size) 12 (aq.tmps.getD 15 undef) W → Below (w0.heap.size) w0 W → (∃ gz, aq.tmps.getD 14 undef = .pointer (some ⟨gz, 0, none⟩) ∧ w0.heap.size ≤ gz ∧ Blk W gz [.int .u64 (ww3 m1), .int .u64 (ww2 m1), .int .u64 (ww1 m1), .int .u64 (ww0 m1), .int .u64 (ww3 m2), .int .u64 (ww2 m2), .int .u64 (ww1 m2), .int .u64 (ww0 m2), .int .u64 (ww3 m3), .int .u64 (ww2 m3), .int .u64 (ww1 m3), .int .u64 (ww0 m3)]) → Q .normal aq W) :
   (Code.region idq #[{ dst := some 136, op := Op.fieldAddr 27 (.tmp 4) 0, type := t0, pos := q0, after := #[], guard := none },
   { dst := some 137, op := Op.load 25 (.tmp 136), type := t1, pos := q1, after := #[⟨0, .data⟩], guard := none },
   { dst := some 138, op := Op.call { callee := Callee.value (Operand.func 11), args := #[.tmp 137], argTypes := #[25] }, type := t2, pos := q2, after := #[⟨1, .data⟩], guard := none },
   { dst := some 139, op := Op.fieldAddr 27 (.tmp 4) 1, type := t3, pos := q3, after := #[], guard := none },
   { dst := some 140, op := Op.load 25 (.tmp 139), type := t4, pos := q4, after := #[⟨3, .data⟩], guard := none },
   { dst := some 141, op := Op.call { callee := Callee.value (Operand.func 11), args := #[.tmp 140], argTypes := #[25] }, type := t5, pos := q5, after := #[⟨4, .data⟩, ⟨2, .chain⟩], guard := none },
   { dst := some 142, op := Op.call { callee := Callee.value (Operand.func 12), args := #[.tmp 138, .tmp 141], argTypes := #[40, 40] }, type := t6, pos := q6, after := #[⟨2, .data⟩, ⟨5, .data⟩, ⟨5, .chain⟩], guard := none },
   { dst := some 135, op := Op.move (.tmp 142), type := t7, pos := q7, after := #[⟨6, .data⟩], guard := none },
   { dst := some 143, op := Op.extract (.tmp 135) 0, type := t8, pos := q8, after := #[⟨7, .data⟩], guard := none },
   { dst := some 144, op := Op.extract (.tmp 135) 1, type := t9, pos := q9, after := #[⟨7, .data⟩, ⟨11, .gcOnly .lateStores⟩], guard := none },
   { dst := some 14, op := Op.alloc 40, type := t10, pos := q10, after := #[], guard := none },
   { dst := none, op := Op.store 40 (.tmp 14) (.tmp 143), type := t11, pos := q11, after := #[⟨10, .data⟩, ⟨8, .data⟩, ⟨6, .chain⟩, ⟨0, .phase⟩, ⟨1, .phase⟩, ⟨2, .phase⟩, ⟨3, .phase⟩, ⟨4, .phase⟩, ⟨5, .phase⟩, ⟨6, .phase⟩, ⟨7, .phase⟩, ⟨8, .phase⟩, ⟨9, .textOnly .lateStores⟩, ⟨10, .phase⟩], guard := none },
   { dst := some 15, op := Op.assign (.tmp 144), type := t12, pos := q12, after := #[⟨9, .data⟩, ⟨11, .chain⟩, ⟨0, .phase⟩, ⟨1, .phase⟩, ⟨2, .phase⟩, ⟨3, .phase⟩, ⟨4, .phase⟩, ⟨5, .phase⟩, ⟨6, .phase⟩, ⟨7, .phase⟩, ⟨8, .phase⟩, ⟨9, .phase⟩, ⟨10, .phase⟩, ⟨11, .phase⟩], guard := none }] true).wp Tryz.prog Q a0 w0 := by
 have hS : distS [some 136, some 137, some 138, some 139, some 140, some 141, some 142, some 135, some 143, some 144, some 14, none, some 15] = true := rfl
 refine wp_region_inv (by kernel_rfl) (JmbM B4 A4 p q u w m1 m2 m3 w0 a0) ⟨⟨rfl, rfl, rfl, fun _ _ => rfl, (Below.refl _ w0).drew, fun j d hj => ?_, fun j hj => ?_⟩, ⟨fun h => by exfalso; rw [Array.getD_eq_getD_getElem?, Array.getElem?_replicate] at h; split at h <;> simp at h, fun h => by exfalso; rw [Array.getD_eq_getD_getElem?, Array.getElem?_replicate] at h; split at h <;> simp at h⟩⟩ ?_ ?_
 · exfalso
   rw [Array.getD_eq_getD_getElem?, Array.getElem?_replicate] at hj
   split at hj <;> simp at hj
 · exfalso
   rw [Array.getD_eq_getD_getElem?, Array.getElem?_replicate] at hj
   split at hj <;> simp at hj
 · intro lq aq W iq oq ⟨hJ, hs⟩ hl ho hall
   have hJ2 := hJ
   obtain ⟨z1, z2, z3, z4, z5, z6, z7⟩ := hJ
   have g4 : aq.tmps.getD 4 undef = .pointer (some ⟨A4, 0, none⟩) := by rw [Array.getD_eq_getD_getElem?, z4 4 (by decide), h4]; rfl
   have c0 : W.cell? ⟨A4, 0, none⟩ = some (.int .i64 p) := (z5.cell l0).trans k0
   have c1 : W.cell? ⟨A4, 1, none⟩ = some (.int .i64 q) := (z5.cell l1).trans k1
   have c2 : W.cell? ⟨A4, 2, none⟩ = some (.int .i64 u) := (z5.cell l2).trans k2
   have c3 : W.cell? ⟨A4, 3, none⟩ = some (.int .i64 w) := (z5.cell l3).trans k3
   match iq, ho with
   | 0, ho =>
     cases ho
     refine wpOp_of rfl rfl ?_
     have hK := fun (v : Value) (W2 : World) hW hT hv (hs : SmbM B4 A4 p q u w m1 m2 m3 (lq.setIfInBounds 0 true) (aq.put (some 136) v) W2) => show (JmbM B4 A4 p q u w m1 m2 m3 w0 a0) (lq.setIfInBounds 0 true) (aq.put (some 136) v) W2 from ⟨hJ2.put hS 0 136 rfl (by omega) (W' := W2) hW hT v hv, hs⟩
     clear ho hall hl hQ
     generalize (JmbM B4 A4 p q u w m1 m2 m3 w0 a0) (lq.setIfInBounds 0 true) = K at hK ⊢
     clear hJ2 hS z1 z2 z3 z4 z6 z7
     go_simp
     exact hK _ _ z5 (fun _ _ h => h) rfl (hs.quiet 0 136 _ (by decide) (by decide))
   | 1, ho =>
     cases ho
     refine wpOp_of rfl rfl ?_
     have f0 : (aq.tmps.getD 136 undef) = .pointer (some ⟨A4, 0, none⟩) := z6 0 136 (hall ⟨0, .data⟩ (by simp) rfl) rfl
     have hK := fun (v : Value) (W2 : World) hW hT hv (hs : SmbM B4 A4 p q u w m1 m2 m3 (lq.setIfInBounds 1 true) (aq.put (some 137) v) W2) => show (JmbM B4 A4 p q u w m1 m2 m3 w0 a0) (lq.setIfInBounds 1 true) (aq.put (some 137) v) W2 from ⟨hJ2.put hS 1 137 rfl (by omega) (W' := W2) hW hT v hv, hs⟩
     clear ho hall hl hQ
     generalize (JmbM B4 A4 p q u w m1 m2 m3 w0 a0) (lq.setIfInBounds 1 true) = K at hK ⊢
     clear hJ2 hS z1 z2 z3 z4 z6 z7
     go_simp
     exact hK _ _ z5 (fun _ _ h => h) rfl (hs.quiet 1 137 _ (by decide) (by decide))
   | 2, ho =>
     cases ho
     refine wpOp_of rfl rfl ?_
     have f1 : (aq.tmps.getD 137 undef) = .agg #[.int .i64 p, .int .i64 q] := z6 1 137 (hall ⟨1, .data⟩ (by simp) rfl) rfl
     have hK := fun (v : Value) (W2 : World) hW hT hv (hs : SmbM B4 A4 p q u w m1 m2 m3 (lq.setIfInBounds 2 true) (aq.put (some 138) v) W2) => show (JmbM B4 A4 p q u w m1 m2 m3 w0 a0) (lq.setIfInBounds 2 true) (aq.put (some 138) v) W2 from ⟨hJ2.put hS 2 138 rfl (by omega) (W' := W2) hW hT v hv, hs⟩
     clear ho hall hl hQ
     generalize (JmbM B4 A4 p q u w m1 m2 m3 w0 a0) (lq.setIfInBounds 2 true) = K at hK ⊢
     clear hJ2 hS z1 z2 z3 z4 z6 z7
     go_simp
     refine (hp1 W).mono ?_
     rintro e v1 ⟨rfl, hBv⟩
     exact hK _ _ (z5.trans (hBv.mono z5.size)) (fun _ _ h => h.mono hBv) rfl ((hs.step hBv).quiet 2 138 _ (by decide) (by decide))
   | 3, ho =>
     cases ho
     refine wpOp_of rfl rfl ?_
     have hK := fun (v : Value) (W2 : World) hW hT hv (hs : SmbM B4 A4 p q u w m1 m2 m3 (lq.setIfInBounds 3 true) (aq.put (some 139) v) W2) => show (JmbM B4 A4 p q u w m1 m2 m3 w0 a0) (lq.setIfInBounds 3 true) (aq.put (some 139) v) W2 from ⟨hJ2.put hS 3 139 rfl (by omega) (W' := W2) hW hT v hv, hs⟩
     clear ho hall hl hQ
     generalize (JmbM B4 A4 p q u w m1 m2 m3 w0 a0) (lq.setIfInBounds 3 true) = K at hK ⊢
     clear hJ2 hS z1 z2 z3 z4 z6 z7
     go_simp
     exact hK _ _ z5 (fun _ _ h => h) rfl (hs.quiet 3 139 _ (by decide) (by decide))
   | 4, ho =>
     cases ho
     refine wpOp_of rfl rfl ?_
     have f3 : (aq.tmps.getD 139 undef) = .pointer (some ⟨A4, 2, none⟩) := z6 3 139 (hall ⟨3, .data⟩ (by simp) rfl) rfl
     have hK := fun (v : Value) (W2 : World) hW hT hv (hs : SmbM B4 A4 p q u w m1 m2 m3 (lq.setIfInBounds 4 true) (aq.put (some 140) v) W2) => show (JmbM B4 A4 p q u w m1 m2 m3 w0 a0) (lq.setIfInBounds 4 true) (aq.put (some 140) v) W2 from ⟨hJ2.put hS 4 140 rfl (by omega) (W' := W2) hW hT v hv, hs⟩
     clear ho hall hl hQ
     generalize (JmbM B4 A4 p q u w m1 m2 m3 w0 a0) (lq.setIfInBounds 4 true) = K at hK ⊢
     clear hJ2 hS z1 z2 z3 z4 z6 z7
     go_simp
     exact hK _ _ z5 (fun _ _ h => h) rfl (hs.quiet 4 140 _ (by decide) (by decide))
   | 5, ho =>
     cases ho
     refine wpOp_of rfl rfl ?_
     have f4 : (aq.tmps.getD 140 undef) = .agg #[.int .i64 u, .int .i64 w] := z6 4 140 (hall ⟨4, .data⟩ (by simp) rfl) rfl
     have hK := fun (v : Value) (W2 : World) hW hT hv (hs : SmbM B4 A4 p q u w m1 m2 m3 (lq.setIfInBounds 5 true) (aq.put (some 141) v) W2) => show (JmbM B4 A4 p q u w m1 m2 m3 w0 a0) (lq.setIfInBounds 5 true) (aq.put (some 141) v) W2 from ⟨hJ2.put hS 5 141 rfl (by omega) (W' := W2) hW hT v hv, hs⟩
     clear ho hall hl hQ
     generalize (JmbM B4 A4 p q u w m1 m2 m3 w0 a0) (lq.setIfInBounds 5 true) = K at hK ⊢
     clear hJ2 hS z1 z2 z3 z4 z6 z7
     go_simp
     refine (hp2 W).mono ?_
     rintro e v1 ⟨rfl, hBv⟩
     exact hK _ _ (z5.trans (hBv.mono z5.size)) (fun _ _ h => h.mono hBv) rfl ((hs.step hBv).quiet 5 141 _ (by decide) (by decide))
   | 6, ho =>
     cases ho
     refine wpOp_of rfl rfl ?_
     have f2 : (aq.tmps.getD 138 undef) = (PV p q 1) := z6 2 138 (hall ⟨2, .data⟩ (by simp) rfl) rfl
     have f5 : (aq.tmps.getD 141 undef) = (PV u w 1) := z6 5 141 (hall ⟨5, .data⟩ (by simp) rfl) rfl
     have hK := fun (v : Value) (W2 : World) hW hT hv (hs : SmbM B4 A4 p q u w m1 m2 m3 (lq.setIfInBounds 6 true) (aq.put (some 142) v) W2) => show (JmbM B4 A4 p q u w m1 m2 m3 w0 a0) (lq.setIfInBounds 6 true) (aq.put (some 142) v) W2 from ⟨hJ2.put hS 6 142 rfl (by omega) (W' := W2) hW hT v hv, hs⟩
     clear ho hall hl hQ
     generalize (JmbM B4 A4 p q u w m1 m2 m3 w0 a0) (lq.setIfInBounds 6 true) = K at hK ⊢
     clear hJ2 hS z1 z2 z3 z4 z6 z7
     go_simp
     refine (hM W).mono ?_
     rintro e v1 ⟨rfl, hBv⟩
     exact hK _ _ (z5.trans (hBv.mono z5.size)) (fun _ _ h => h.mono hBv) rfl ((hs.step hBv).quiet 6 142 _ (by decide) (by decide))
   | 7, ho =>
     cases ho
     refine wpOp_of rfl rfl ?_
     have f6 : (aq.tmps.getD 142 undef) = .tuple #[(PV m1 m2 m3), .bool true] := z6 6 142 (hall ⟨6, .data⟩ (by simp) rfl) rfl
     have hK := fun (v : Value) (W2 : World) hW hT hv (hs : SmbM B4 A4 p q u w m1 m2 m3 (lq.setIfInBounds 7 true) (aq.put (some 135) v) W2) => show (JmbM B4 A4 p q u w m1 m2 m3 w0 a0) (lq.setIfInBounds 7 true) (aq.put (some 135) v) W2 from ⟨hJ2.put hS 7 135 rfl (by omega) (W' := W2) hW hT v hv, hs⟩
     clear ho hall hl hQ
     generalize (JmbM B4 A4 p q u w m1 m2 m3 w0 a0) (lq.setIfInBounds 7 true) = K at hK ⊢
     clear hJ2 hS z1 z2 z3 z4 z6 z7
     go_simp
     exact hK _ _ z5 (fun _ _ h => h) rfl (hs.quiet 7 135 _ (by decide) (by decide))
   | 8, ho =>
     cases ho
     refine wpOp_of rfl rfl ?_
     have f7 : (aq.tmps.getD 135 undef) = .tuple #[(PV m1 m2 m3), .bool true] := z6 7 135 (hall ⟨7, .data⟩ (by simp) rfl) rfl
     have hK := fun (v : Value) (W2 : World) hW hT hv (hs : SmbM B4 A4 p q u w m1 m2 m3 (lq.setIfInBounds 8 true) (aq.put (some 143) v) W2) => show (JmbM B4 A4 p q u w m1 m2 m3 w0 a0) (lq.setIfInBounds 8 true) (aq.put (some 143) v) W2 from ⟨hJ2.put hS 8 143 rfl (by omega) (W' := W2) hW hT v hv, hs⟩
     clear ho hall hl hQ
     generalize (JmbM B4 A4 p q u w m1 m2 m3 w0 a0) (lq.setIfInBounds 8 true) = K at hK ⊢
     clear hJ2 hS z1 z2 z3 z4 z6 z7
     go_simp
     exact hK _ _ z5 (fun _ _ h => h) rfl (hs.quiet 8 143 _ (by decide) (by decide))
   | 9, ho =>
     cases ho
     refine wpOp_of rfl rfl ?_
     have f7 : (aq.tmps.getD 135 undef) = .tuple #[(PV m1 m2 m3), .bool true] := z6 7 135 (hall ⟨7, .data⟩ (by simp) rfl) rfl
     have hK := fun (v : Value) (W2 : World) hW hT hv (hs : SmbM B4 A4 p q u w m1 m2 m3 (lq.setIfInBounds 9 true) (aq.put (some 144) v) W2) => show (JmbM B4 A4 p q u w m1 m2 m3 w0 a0) (lq.setIfInBounds 9 true) (aq.put (some 144) v) W2 from ⟨hJ2.put hS 9 144 rfl (by omega) (W' := W2) hW hT v hv, hs⟩
     clear ho hall hl hQ
     generalize (JmbM B4 A4 p q u w m1 m2 m3 w0 a0) (lq.setIfInBounds 9 true) = K at hK ⊢
     clear hJ2 hS z1 z2 z3 z4 z6 z7
     go_simp
     exact hK _ _ z5 (fun _ _ h => h) rfl (hs.quiet 9 144 _ (by decide) (by decide))
   | 10, ho =>
     cases ho
     refine wpOp_of rfl rfl ?_
     have hl9 := hl
     have hsz : 14 < aq.tmps.size := by omega
     have hK := fun (v : Value) (W2 : World) hW hT hv (hs : SmbM B4 A4 p q u w m1 m2 m3 (lq.setIfInBounds 10 true) (aq.put (some 14) v) W2) => show (JmbM B4 A4 p q u w m1 m2 m3 w0 a0) (lq.setIfInBounds 10 true) (aq.put (some 14) v) W2 from ⟨hJ2.put hS 10 14 rfl (by omega) (W' := W2) hW hT v hv, hs⟩
     clear ho hall hl hQ
     generalize (JmbM B4 A4 p q u w m1 m2 m3 w0 a0) (lq.setIfInBounds 10 true) = K at hK ⊢
     clear hJ2 hS z1 z2 z3 z4 z6 z7
     go_simp
     exact hK _ _ (z5.alloc z5.size _) (fun _ _ h => h.mono ((Below.refl _ _).alloc (Nat.le_refl _) _)) trivial ((hs.step ((Below.refl _ _).alloc (Nat.le_refl _) _)).nine hl9 hsz (by have := z5.size; omega) (Blk.new W [.int .u64 0, .int .u64 0, .int .u64 0, .int .u64 0, .int .u64 0, .int .u64 0, .int .u64 0, .int .u64 0, .int .u64 0, .int .u64 0, .int .u64 0, .int .u64 0] _ rfl))
   | 11, ho =>
     cases ho
     refine wpOp_of rfl rfl ?_
     have f10 : True := z6 10 14 (hall ⟨10, .data⟩ (by simp) rfl) rfl
     have f8 : (aq.tmps.getD 143 undef) = (PV m1 m2 m3) := z6 8 143 (hall ⟨8, .data⟩ (by simp) rfl) rfl
     have l9 : lq.getD 10 false = true := hall ⟨10, .data⟩ (by simp) rfl
     have hK := fun (W2 : World) hW hT hv (hs : SmbM B4 A4 p q u w m1 m2 m3 (lq.setIfInBounds 11 true) aq W2) => show (JmbM B4 A4 p q u w m1 m2 m3 w0 a0) (lq.setIfInBounds 11 true) aq W2 from ⟨hJ2.world 11 rfl (W' := W2) hW hT hv, hs⟩
     clear ho hall hl hQ
     generalize (JmbM B4 A4 p q u w m1 m2 m3 w0 a0) (lq.setIfInBounds 11 true) = K at hK ⊢
     clear hJ2 hS z1 z2 z3 z4 z6 z7
     obtain ⟨gz, e7, hgz, ⟨z0q, z1q, z2q, z3q, z4q, z5q, z6q, z7q, z8q, z9q, z10q, z11q, GZ⟩, _⟩ := hs.2 l9
     have gl := GZ.lt
     obtain ⟨c0z, d0z, c1z, d1z, c2z, d2z, c3z, d3z, c4z, d4z, c5z, d5z, c6z, d6z, c7z, d7z, c8z, d8z, c9z, d9z, c10z, d10z, c11z, d11z⟩ := GZ.cf12
     have NB : Blk ((((((((((((W.setCell ⟨gz, 0, none⟩ (.int .u64 (ww3 m1))).setCell ⟨gz, 1, none⟩ (.int .u64 (ww2 m1))).setCell ⟨gz, 2, none⟩ (.int .u64 (ww1 m1))).setCell ⟨gz, 3, none⟩ (.int .u64 (ww0 m1))).setCell ⟨gz, 4, none⟩ (.int .u64 (ww3 m2))).setCell ⟨gz, 5, none⟩ (.int .u64 (ww2 m2))).setCell ⟨gz, 6, none⟩ (.int .u64 (ww1 m2))).setCell ⟨gz, 7, none⟩ (.int .u64 (ww0 m2))).setCell ⟨gz, 8, none⟩ (.int .u64 (ww3 m3))).setCell ⟨gz, 9, none⟩ (.int .u64 (ww2 m3))).setCell ⟨gz, 10, none⟩ (.int .u64 (ww1 m3))).setCell ⟨gz, 11, none⟩ (.int .u64 (ww0 m3))) gz [.int .u64 (ww3 m1), .int .u64 (ww2 m1), .int .u64 (ww1 m1), .int .u64 (ww0 m1), .int .u64 (ww3 m2), .int .u64 (ww2 m2), .int .u64 (ww1 m2), .int .u64 (ww0 m2), .int .u64 (ww3 m3), .int .u64 (ww2 m3), .int .u64 (ww1 m3), .int .u64 (ww0 m3)] := GZ.stored12 _ _ _ _ _ _ _ _ _ _ _ _
     have hgw : w0.heap.size ≤ gz := by omega
     have NL : Below w0.heap.size w0 ((((((((((((W.setCell ⟨gz, 0, none⟩ (.int .u64 (ww3 m1))).setCell ⟨gz, 1, none⟩ (.int .u64 (ww2 m1))).setCell ⟨gz, 2, none⟩ (.int .u64 (ww1 m1))).setCell ⟨gz, 3, none⟩ (.int .u64 (ww0 m1))).setCell ⟨gz, 4, none⟩ (.int .u64 (ww3 m2))).setCell ⟨gz, 5, none⟩ (.int .u64 (ww2 m2))).setCell ⟨gz, 6, none⟩ (.int .u64 (ww1 m2))).setCell ⟨gz, 7, none⟩ (.int .u64 (ww0 m2))).setCell ⟨gz, 8, none⟩ (.int .u64 (ww3 m3))).setCell ⟨gz, 9, none⟩ (.int .u64 (ww2 m3))).setCell ⟨gz, 10, none⟩ (.int .u64 (ww1 m3))).setCell ⟨gz, 11, none⟩ (.int .u64 (ww0 m3))) := Below.set12 hgw z5
     have HS := hs.ten l9 e7 hgz NB
     clear GZ NB hs
     go_simp
     exact hK _ NL (fun j v h => VmbM.same h) trivial HS
   | 12, ho =>
     cases ho
     refine wpOp_of rfl rfl ?_
     have f9 : (aq.tmps.getD 144 undef) = .bool true := z6 9 144 (hall ⟨9, .data⟩ (by simp) rfl) rfl
     have hK := fun (v : Value) (W2 : World) hW hT hv (hs : SmbM B4 A4 p q u w m1 m2 m3 (lq.setIfInBounds 12 true) (aq.put (some 15) v) W2) => show (JmbM B4 A4 p q u w m1 m2 m3 w0 a0) (lq.setIfInBounds 12 true) (aq.put (some 15) v) W2 from ⟨hJ2.put hS 12 15 rfl (by omega) (W' := W2) hW hT v hv, hs⟩
     clear ho hall hl hQ
     generalize (JmbM B4 A4 p q u w m1 m2 m3 w0 a0) (lq.setIfInBounds 12 true) = K at hK ⊢
     clear hJ2 hS z1 z2 z3 z4 z6 z7
     go_simp
     exact hK _ _ z5 (fun _ _ h => h) rfl (hs.quiet 12 15 _ (by decide) (by decide))
   | iq + 13, ho => simp at ho
 · intro lq aq W ⟨hJ, hs⟩ hr
   obtain ⟨z1, z2, z3, z4, z5, z6, z7⟩ := hJ
   have hl := listed_of hr [10, 0, 1, 2, 3, 4, 5, 6, 7, 8, 11, 9, 12] [] (by simp) (by kernel_rfl) (by rw [z1]; decide)
   exact hQ aq W z2 z3 (fun e he => z4 e (by simpa using he)) (z7 11 (hl 11 (by simp)) rfl) (z6 12 15 (hl 12 (by simp)) rfl) z5 (by obtain ⟨gz, e1, e2, _, e4⟩ := hs.2 (hl 10 (by simp)); exact ⟨gz, e1, by omega, e4 (hl 11 (by simp))⟩)
end Go.Proofs.YtpnnpkchogooaaaGreat
