/- Part 8 of the walks that the proof leans on. -/
import Derived.Test.YtpmnmlhfaoajdaaGreatPart7
set_option maxRecDepth 100000
set_option maxHeartbeats 16000000
namespace Go.Proofs.YtpmnmlhfaoajdaaGreat
open Go.RowKit
def L3E (x y z : Int) (v : Value) (W : World) : Prop :=
 ∃ (s1 : Bool) (o1 : Option Addr) (n1 c1 : Nat) (d1 : List Int) (s2 : Bool) (o2 : Option Addr) (n2 c2 : Nat) (d2 : List Int) (s3 : Bool) (o3 : Option Addr) (n3 c3 : Nat) (d3 : List Int), v = .agg #[.bool s1, .slice o1 n1 c1, .bool s2, .slice o2 n2 c2, .bool s3, .slice o3 n3 c3] ∧ IsNum W s1 o1 n1 c1 d1 x 8 ∧ IsNum W s2 o2 n2 c2 d2 y 8 ∧ IsNum W s3 o3 n3 c3 d3 z 8
theorem L3E.step {x y z : Int} {v : Value} {W W2 : World} (h : L3E x y z v W) (hB : Below W.heap.size W W2) : L3E x y z v W2 := by
 obtain ⟨s1, o1, n1, c1, d1, s2, o2, n2, c2, d2, s3, o3, n3, c3, d3, e, N1, N2, N3⟩ := h
 exact ⟨s1, o1, n1, c1, d1, s2, o2, n2, c2, d2, s3, o3, n3, c3, d3, e, N1.below hB, N2.below hB, N3.below hB⟩
def VevM_A (n cap A off c : Nat) (x y z : Int) (_B : Nat) : Nat → Value → World → Prop
 | 0, v, _ => v = .slice (some ⟨A, off, none⟩) n cap
 | 1, v, _ => v = .int .i64 (c : Int)
 | 2, v, _ => v = .pointer (some ⟨A, off + c * 13, none⟩)
 | 3, v, _ => v = .pointer (some ⟨A, off + c * 13, none⟩)
 | 4, v, _ => v = PV x y z
 | 5, v, _ => v = .bool (ptB x y z)
 | 6, v, _ => v = .bool true
 | 7, v, _ => v = .bool true
 | 8, v, _ => v = undef
 | 9, v, _ => v = undef
 | 10, v, _ => v = undef
 | 11, v, _ => v = undef
 | 12, v, _ => v = undef
 | 13, v, _ => v = undef
 | 14, v, _ => v = undef
 | 15, v, _ => v = .bool true
 | 16, v, _ => v = .bool true
 | 17, v, _ => v = undef
 | 18, v, _ => v = undef
 | 19, v, _ => v = undef
 | 20, v, _ => v = undef
 | 21, v, _ => v = undef
 | 22, v, _ => v = undef
 | 23, v, _ => v = undef
 | 24, v, _ => v = undef
 | 25, v, _ => v = undef
 | 26, v, _ => v = undef
 | 27, v, _ => v = undef
 | 28, v, _ => v = undef
 | 29, v, _ => v = undef
 | 30, v, _ => v = undef
 | 31, v, _ => v = undef
 | 32, v, _ => v = undef
 | 33, v, _ => v = undef
 | 34, v, _ => v = undef
 | 35, v, _ => v = undef
 | 36, v, _ => v = .bool true
 | _, _, _ => True
theorem VevM_A.mono {n cap A off c : Nat} {x y z : Int} {B j : Nat} {v : Value} {W W2 : World} (_hB : Below W.heap.size W W2) (h : VevM_A n cap A off c x y z B j v W) : VevM_A n cap A off c x y z B j v W2 := by
 unfold VevM_A at *
 split <;> simp only at h <;> first | exact h | trivial
theorem evM_A {Q : Exit → Act → World → Prop} {n cap A off c : Nat} {x y z : Int} {m mc : Nat} {eo : Option Addr} {w0 : World} {a0 : Act} {idq : Nat} {t0 t1 t2 t3 t4 t5 t6 t7 t8 t9 t10 t11 t12 t13 t14 t15 t16 t17 t18 t19 t20 t21 t22 t23 t24 t25 t26 t27 t28 t29 t30 t31 t32 t33 t34 t35 t36 : TypeId} {q0 q1 q2 q3 q4 q5 q6 q7 q8 q9 q10 q11 q12 q13 q14 q15 q16 q17 q18 q19 q20 q21 q22 q23 q24 q25 q26 q27 q28 q29 q30 q31 q32 q33 q34 q35 q36 : String}
   (hc : c < n) (hn : n ≤ 200) (ta : told x = true) (tb : told y = true) (tc : told z = true) (hp : ptB x y z = false) (h0 : a0.tmps[0]? = some (.slice (some ⟨A, off, none⟩) n cap)) (h3 : a0.tmps[3]? = some (.int .i64 (c : Int))) (k0 : w0.cell? ⟨A, off + c * 13, none⟩ = some (.int .u64 (ww3 x))) (l0 : (⟨A, off + c * 13, none⟩ : Addr).block < w0.heap.size) (k1 : w0.cell? ⟨A, off + c * 13 + 1, none⟩ = some (.int .u64 (ww2 x))) (l1 : (⟨A, off + c * 13 + 1, none⟩ : Addr).block < w0.heap.size) (k2 : w0.cell? ⟨A, off + c * 13 + 2, none⟩ = some (.int .u64 (ww1 x))) (l2 : (⟨A, off + c * 13 + 2, none⟩ : Addr).block < w0.heap.size) (k3 : w0.cell? ⟨A, off + c * 13 + 3, none⟩ = some (.int .u64 (ww0 x))) (l3 : (⟨A, off + c * 13 + 3, none⟩ : Addr).block < w0.heap.size) (k4 : w0.cell? ⟨A, off + c * 13 + 4, none⟩ = some (.int .u64 (ww3 y))) (l4 : (⟨A, off + c * 13 + 4, none⟩ : Addr).block < w0.heap.size) (k5 : w0.cell? ⟨A, off + c * 13 + 5, none⟩ = some (.int .u64 (ww2 y))) (l5 : (⟨A, off + c * 13 + 5, none⟩ : Addr).block < w0.heap.size) (k6 : w0.cell? ⟨A, off + c * 13 + 6, none⟩ = some (.int .u64 (ww1 y))) (l6 : (⟨A, off + c * 13 + 6, none⟩ : Addr).block < w0.heap.size) (k7 : w0.cell? ⟨A, off + c * 13 + 7, none⟩ = some (.int .u64 (ww0 y))) (l7 : (⟨A, off + c * 13 + 7, none⟩ : Addr).block < w0.heap.size) (k8 : w0.cell? ⟨A, off + c * 13 + 8, none⟩ = some (.int .u64 (ww3 z))) (l8 : (⟨A, off + c * 13 + 8, none⟩ : Addr).block < w0.heap.size) (k9 : w0.cell? ⟨A, off + c * 13 + 9, none⟩ = some (.int .u64 (ww2 z))) (l9 : (⟨A, off + c * 13 + 9, none⟩ : Addr).block < w0.heap.size) (k10 : w0.cell? ⟨A, off + c * 13 + 10, none⟩ = some (.int .u64 (ww1 z))) (l10 : (⟨A, off + c * 13 + 10, none⟩ : Addr).block < w0.heap.size) (k11 : w0.cell? ⟨A, off + c * 13 + 11, none⟩ = some (.int .u64 (ww0 z))) (l11 : (⟨A, off + c * 13 + 11, none⟩ : Addr).block < w0.heap.size) (k12 : w0.cell? ⟨A, off + c * 13 + 12, none⟩ = some (.slice eo m mc)) (l12 : (⟨A, off + c * 13 + 12, none⟩ : Addr).block < w0.heap.size) (hz : a0.tmps.size = 95)
   (hQ : ∀ aq W, aq.tmps.size = a0.tmps.size → aq.defers = a0.defers → (∀ e, e ∉ ([14, 15, 16, 17, 18, 19, 20, 21, 22, 23, 24, 25, 26, 27, 28, 29, 30, 31, 32, 33, 34, 35, 36, 37, 38, 39, 40, 41, 42, 43, 44, 45, 46, 47, 48, 49, 50] : List Nat) → aq.tmps[e]? = a0.tmps[e]?) → VevM_A n cap A off c x y z w0.heap.size 36 (aq.tmps.getD 50 undef) W → Below w0.heap.size w0 W → Q .normal aq W) :
   (Code.region idq #[{ dst := some 14, op := Op.move (.tmp 0), type := t0, pos := q0, after := #[], guard := none },
   { dst := some 15, op := Op.move (.tmp 3), type := t1, pos := q1, after := #[], guard := none },
   { dst := some 16, op := Op.indexAddr 44 (.tmp 14) (.tmp 15), type := t2, pos := q2, after := #[⟨0, .data⟩, ⟨1, .data⟩], guard := none },
   { dst := some 17, op := Op.fieldAddr 81 (.tmp 16) 0, type := t3, pos := q3, after := #[⟨2, .data⟩], guard := none },
   { dst := some 18, op := Op.load 35 (.tmp 17), type := t4, pos := q4, after := #[⟨3, .data⟩], guard := none },
   { dst := some 19, op := Op.call { callee := Callee.value (Operand.func 23), args := #[.tmp 18], argTypes := #[35] }, type := t5, pos := q5, after := #[⟨4, .data⟩], guard := none },
   { dst := some 20, op := Op.unOp UnOp.not 4 (.tmp 19), type := t6, pos := q6, after := #[⟨5, .data⟩], guard := none },
   { dst := some 21, op := Op.move (.tmp 20), type := t7, pos := q7, after := #[⟨6, .data⟩, ⟨5, .chain⟩], guard := none },
   { dst := some 22, op := Op.move (.tmp 0), type := t8, pos := q8, after := #[⟨7, .guard⟩], guard := some (7, false) },
   { dst := some 23, op := Op.move (.tmp 3), type := t9, pos := q9, after := #[⟨7, .guard⟩], guard := some (7, false) },
   { dst := some 24, op := Op.indexAddr 44 (.tmp 22) (.tmp 23), type := t10, pos := q10, after := #[⟨8, .data⟩, ⟨9, .data⟩, ⟨7, .guard⟩], guard := some (7, false) },
   { dst := some 25, op := Op.fieldAddr 81 (.tmp 24) 1, type := t11, pos := q11, after := #[⟨10, .data⟩, ⟨7, .guard⟩], guard := some (7, false) },
   { dst := some 26, op := Op.load 29 (.tmp 25), type := t12, pos := q12, after := #[⟨11, .data⟩, ⟨7, .guard⟩], guard := some (7, false) },
   { dst := some 27, op := Op.call { callee := Callee.builtin Builtin.len, args := #[.tmp 26], argTypes := #[29] }, type := t13, pos := q13, after := #[⟨12, .data⟩, ⟨7, .guard⟩], guard := some (7, false) },
   { dst := some 28, op := Op.binOp BinOp.lss 3 (.tmp 27) (Operand.const (Value.int IntKind.i64 1)) 3, type := t14, pos := q14, after := #[⟨13, .data⟩, ⟨7, .guard⟩], guard := some (7, false) },
   { dst := some 29, op := Op.pick (.tmp 21) (Operand.const (Value.bool true)) (.tmp 28), type := t15, pos := q15, after := #[⟨7, .data⟩, ⟨14, .data⟩], guard := none },
   { dst := some 30, op := Op.move (.tmp 29), type := t16, pos := q16, after := #[⟨15, .data⟩, ⟨7, .chain⟩], guard := none },
   { dst := some 31, op := Op.move (.tmp 3), type := t17, pos := q17, after := #[⟨16, .guard⟩], guard := some (16, false) },
   { dst := some 32, op := Op.binOp BinOp.gtr 3 (.tmp 31) (Operand.const (Value.int IntKind.i64 0)) 3, type := t18, pos := q18, after := #[⟨17, .data⟩, ⟨16, .guard⟩], guard := some (16, false) },
   { dst := some 33, op := Op.move (.tmp 32), type := t19, pos := q19, after := #[⟨18, .data⟩, ⟨16, .chain⟩, ⟨16, .guard⟩], guard := some (16, false) },
   { dst := some 34, op := Op.move (.tmp 0), type := t20, pos := q20, after := #[⟨19, .guard⟩], guard := some (19, true) },
   { dst := some 35, op := Op.move (.tmp 3), type := t21, pos := q21, after := #[⟨19, .guard⟩], guard := some (19, true) },
   { dst := some 36, op := Op.binOp BinOp.sub 3 (.tmp 35) (Operand.const (Value.int IntKind.i64 1)) 3, type := t22, pos := q22, after := #[⟨21, .data⟩, ⟨19, .guard⟩], guard := some (19, true) },
   { dst := some 37, op := Op.indexAddr 44 (.tmp 34) (.tmp 36), type := t23, pos := q23, after := #[⟨20, .data⟩, ⟨22, .data⟩, ⟨19, .guard⟩], guard := some (19, true) },
   { dst := some 38, op := Op.fieldAddr 81 (.tmp 37) 0, type := t24, pos := q24, after := #[⟨23, .data⟩, ⟨19, .guard⟩], guard := some (19, true) },
   { dst := some 39, op := Op.load 35 (.tmp 38), type := t25, pos := q25, after := #[⟨24, .data⟩, ⟨19, .guard⟩], guard := some (19, true) },
   { dst := some 40, op := Op.call { callee := Callee.value (Operand.func 25), args := #[.tmp 39], argTypes := #[35] }, type := t26, pos := q26, after := #[⟨25, .data⟩, ⟨19, .chain⟩, ⟨19, .guard⟩], guard := some (19, true) },
   { dst := some 41, op := Op.move (.tmp 0), type := t27, pos := q27, after := #[⟨19, .guard⟩], guard := some (19, true) },
   { dst := some 42, op := Op.move (.tmp 3), type := t28, pos := q28, after := #[⟨19, .guard⟩], guard := some (19, true) },
   { dst := some 43, op := Op.indexAddr 44 (.tmp 41) (.tmp 42), type := t29, pos := q29, after := #[⟨27, .data⟩, ⟨28, .data⟩, ⟨19, .guard⟩], guard := some (19, true) },
   { dst := some 44, op := Op.fieldAddr 81 (.tmp 43) 0, type := t30, pos := q30, after := #[⟨29, .data⟩, ⟨19, .guard⟩], guard := some (19, true) },
   { dst := some 45, op := Op.load 35 (.tmp 44), type := t31, pos := q31, after := #[⟨30, .data⟩, ⟨19, .guard⟩], guard := some (19, true) },
   { dst := some 46, op := Op.call { callee := Callee.value (Operand.func 25), args := #[.tmp 45], argTypes := #[35] }, type := t32, pos := q32, after := #[⟨31, .data⟩, ⟨26, .chain⟩, ⟨19, .guard⟩], guard := some (19, true) },
   { dst := some 47, op := Op.call { callee := Callee.value (Operand.func 36), args := #[.tmp 40, .tmp 46], argTypes := #[58, 58] }, type := t33, pos := q33, after := #[⟨26, .data⟩, ⟨32, .data⟩, ⟨32, .chain⟩, ⟨19, .guard⟩], guard := some (19, true) },
   { dst := some 48, op := Op.binOp BinOp.geq 2 (.tmp 47) (Operand.const (Value.int IntKind.i64 0)) 2, type := t34, pos := q34, after := #[⟨33, .data⟩, ⟨19, .guard⟩], guard := some (19, true) },
   { dst := some 49, op := Op.pick (.tmp 33) (.tmp 48) (Operand.const (Value.bool false)), type := t35, pos := q35, after := #[⟨19, .data⟩, ⟨34, .data⟩, ⟨16, .guard⟩], guard := some (16, false) },
   { dst := some 50, op := Op.pick (.tmp 30) (Operand.const (Value.bool true)) (.tmp 49), type := t36, pos := q36, after := #[⟨16, .data⟩, ⟨35, .data⟩], guard := none }] true).wp Tryz.prog Q a0 w0 := by
 have hS : distS [some 14, some 15, some 16, some 17, some 18, some 19, some 20, some 21, some 22, some 23, some 24, some 25, some 26, some 27, some 28, some 29, some 30, some 31, some 32, some 33, some 34, some 35, some 36, some 37, some 38, some 39, some 40, some 41, some 42, some 43, some 44, some 45, some 46, some 47, some 48, some 49, some 50] = true := rfl
 refine wp_region_q (by kernel_rfl) w0.heap.size [some 14, some 15, some 16, some 17, some 18, some 19, some 20, some 21, some 22, some 23, some 24, some 25, some 26, some 27, some 28, some 29, some 30, some 31, some 32, some 33, some 34, some 35, some 36, some 37, some 38, some 39, some 40, some 41, some 42, some 43, some 44, some 45, some 46, some 47, some 48, some 49, some 50] (VevM_A n cap A off c x y z w0.heap.size) rfl ?_ ?_
 · intro Q lq aq W iq oq hJ hl ho hall
   have hJ2 := hJ
   obtain ⟨z1, z2, z3, z4, z5, z6, z7⟩ := hJ
   have g0 : aq.tmps.getD 0 undef = .slice (some ⟨A, off, none⟩) n cap := by rw [Array.getD_eq_getD_getElem?, z4 0 (by decide), h0]; rfl
   have g3 : aq.tmps.getD 3 undef = .int .i64 (c : Int) := by rw [Array.getD_eq_getD_getElem?, z4 3 (by decide), h3]; rfl
   have c0 : W.cell? ⟨A, off + c * 13, none⟩ = some (.int .u64 (ww3 x)) := (z5.cell l0).trans k0
   have c1 : W.cell? ⟨A, off + c * 13 + 1, none⟩ = some (.int .u64 (ww2 x)) := (z5.cell l1).trans k1
   have c2 : W.cell? ⟨A, off + c * 13 + 2, none⟩ = some (.int .u64 (ww1 x)) := (z5.cell l2).trans k2
   have c3 : W.cell? ⟨A, off + c * 13 + 3, none⟩ = some (.int .u64 (ww0 x)) := (z5.cell l3).trans k3
   have c4 : W.cell? ⟨A, off + c * 13 + 4, none⟩ = some (.int .u64 (ww3 y)) := (z5.cell l4).trans k4
   have c5 : W.cell? ⟨A, off + c * 13 + 5, none⟩ = some (.int .u64 (ww2 y)) := (z5.cell l5).trans k5
   have c6 : W.cell? ⟨A, off + c * 13 + 6, none⟩ = some (.int .u64 (ww1 y)) := (z5.cell l6).trans k6
   have c7 : W.cell? ⟨A, off + c * 13 + 7, none⟩ = some (.int .u64 (ww0 y)) := (z5.cell l7).trans k7
   have c8 : W.cell? ⟨A, off + c * 13 + 8, none⟩ = some (.int .u64 (ww3 z)) := (z5.cell l8).trans k8
   have c9 : W.cell? ⟨A, off + c * 13 + 9, none⟩ = some (.int .u64 (ww2 z)) := (z5.cell l9).trans k9
   have c10 : W.cell? ⟨A, off + c * 13 + 10, none⟩ = some (.int .u64 (ww1 z)) := (z5.cell l10).trans k10
   have c11 : W.cell? ⟨A, off + c * 13 + 11, none⟩ = some (.int .u64 (ww0 z)) := (z5.cell l11).trans k11
   have c12 : W.cell? ⟨A, off + c * 13 + 12, none⟩ = some (.slice eo m mc) := (z5.cell l12).trans k12
   match iq, ho with
   | 0, ho =>
     cases ho
     refine wpOp_of rfl rfl ?_
     have hK := fun (v : Value) (W2 : World) hW hT hv => hJ2.put hS 0 14 rfl (by omega) (W' := W2) hW hT v hv
     clear ho hall hl hQ
     generalize InvQ _ _ _ w0 a0 (lq.setIfInBounds 0 true) = K at hK ⊢
     clear hJ2 hS z1 z2 z3 z4 z6 z7
     go_simp
     exact hK _ _ z5 (fun _ _ h => h) rfl
   | 1, ho =>
     cases ho
     refine wpOp_of rfl rfl ?_
     have hK := fun (v : Value) (W2 : World) hW hT hv => hJ2.put hS 1 15 rfl (by omega) (W' := W2) hW hT v hv
     clear ho hall hl hQ
     generalize InvQ _ _ _ w0 a0 (lq.setIfInBounds 1 true) = K at hK ⊢
     clear hJ2 hS z1 z2 z3 z4 z6 z7
     go_simp
     exact hK _ _ z5 (fun _ _ h => h) rfl
   | 2, ho =>
     cases ho
     refine wpOp_of rfl rfl ?_
     have f0 : (aq.tmps.getD 14 undef) = .slice (some ⟨A, off, none⟩) n cap := z6 0 14 (hall ⟨0, .data⟩ (by simp) rfl) rfl
     have f1 : (aq.tmps.getD 15 undef) = .int .i64 (c : Int) := z6 1 15 (hall ⟨1, .data⟩ (by simp) rfl) rfl
     have hcI : (c : Int) < n := by omega
     have hnI : (n : Int) ≤ 200 := by omega
     have hK := fun (v : Value) (W2 : World) hW hT hv => hJ2.put hS 2 16 rfl (by omega) (W' := W2) hW hT v hv
     clear ho hall hl hQ
     generalize InvQ _ _ _ w0 a0 (lq.setIfInBounds 2 true) = K at hK ⊢
     clear hJ2 hS z1 z2 z3 z4 z6 z7
     go_simp
     exact hK _ _ z5 (fun _ _ h => h) rfl
   | 3, ho =>
     cases ho
     refine wpOp_of rfl rfl ?_
     have f2 : (aq.tmps.getD 16 undef) = .pointer (some ⟨A, off + c * 13, none⟩) := z6 2 16 (hall ⟨2, .data⟩ (by simp) rfl) rfl
     have hK := fun (v : Value) (W2 : World) hW hT hv => hJ2.put hS 3 17 rfl (by omega) (W' := W2) hW hT v hv
     clear ho hall hl hQ
     generalize InvQ _ _ _ w0 a0 (lq.setIfInBounds 3 true) = K at hK ⊢
     clear hJ2 hS z1 z2 z3 z4 z6 z7
     go_simp
     exact hK _ _ z5 (fun _ _ h => h) rfl
   | 4, ho =>
     cases ho
     refine wpOp_of rfl rfl ?_
     have f3 : (aq.tmps.getD 17 undef) = .pointer (some ⟨A, off + c * 13, none⟩) := z6 3 17 (hall ⟨3, .data⟩ (by simp) rfl) rfl
     have hK := fun (v : Value) (W2 : World) hW hT hv => hJ2.put hS 4 18 rfl (by omega) (W' := W2) hW hT v hv
     clear ho hall hl hQ
     generalize InvQ _ _ _ w0 a0 (lq.setIfInBounds 4 true) = K at hK ⊢
     clear hJ2 hS z1 z2 z3 z4 z6 z7
     go_simp
     exact hK _ _ z5 (fun _ _ h => h) rfl
   | 5, ho =>
     cases ho
     refine wpOp_of rfl rfl ?_
     have f4 : (aq.tmps.getD 18 undef) = PV x y z := z6 4 18 (hall ⟨4, .data⟩ (by simp) rfl) rfl
     have hK := fun (v : Value) (W2 : World) hW hT hv => hJ2.put hS 5 19 rfl (by omega) (W' := W2) hW hT v hv
     clear ho hall hl hQ
     generalize InvQ _ _ _ w0 a0 (lq.setIfInBounds 5 true) = K at hK ⊢
     clear hJ2 hS z1 z2 z3 z4 z6 z7
     go_simp
     refine (specPointOk_det x y z ta tb tc W).mono ?_
     rintro e v1 ⟨rfl, hBv⟩
     exact hK _ _ (z5.trans (hBv.mono z5.size)) (fun j v h => h.mono hBv) rfl
   | 6, ho =>
     cases ho
     refine wpOp_of rfl rfl ?_
     have f5 : (aq.tmps.getD 19 undef) = .bool (ptB x y z) := z6 5 19 (hall ⟨5, .data⟩ (by simp) rfl) rfl
     rw [hp] at f5
     have hK := fun (v : Value) (W2 : World) hW hT hv => hJ2.put hS 6 20 rfl (by omega) (W' := W2) hW hT v hv
     clear ho hall hl hQ
     generalize InvQ _ _ _ w0 a0 (lq.setIfInBounds 6 true) = K at hK ⊢
     clear hJ2 hS z1 z2 z3 z4 z6 z7
     go_simp
     exact hK _ _ z5 (fun _ _ h => h) rfl
   | 7, ho =>
     cases ho
     refine wpOp_of rfl rfl ?_
     have f6 : (aq.tmps.getD 20 undef) = .bool true := z6 6 20 (hall ⟨6, .data⟩ (by simp) rfl) rfl
     have hK := fun (v : Value) (W2 : World) hW hT hv => hJ2.put hS 7 21 rfl (by omega) (W' := W2) hW hT v hv
     clear ho hall hl hQ
     generalize InvQ _ _ _ w0 a0 (lq.setIfInBounds 7 true) = K at hK ⊢
     clear hJ2 hS z1 z2 z3 z4 z6 z7
     go_simp
     exact hK _ _ z5 (fun _ _ h => h) rfl
   | 8, ho =>
     cases ho
     have fg : aq.tmps.getD 21 undef = .bool true := z6 7 21 (hall ⟨7, .guard⟩ (by simp) rfl) rfl
     refine wpOp_off rfl rfl rfl rfl fg ?_
     exact hJ2.put hS 8 22 rfl (by omega) z5 (fun _ _ h => h) undef rfl
   | 9, ho =>
     cases ho
     have fg : aq.tmps.getD 21 undef = .bool true := z6 7 21 (hall ⟨7, .guard⟩ (by simp) rfl) rfl
     refine wpOp_off rfl rfl rfl rfl fg ?_
     exact hJ2.put hS 9 23 rfl (by omega) z5 (fun _ _ h => h) undef rfl
   | 10, ho =>
     cases ho
     have fg : aq.tmps.getD 21 undef = .bool true := z6 7 21 (hall ⟨7, .guard⟩ (by simp) rfl) rfl
     refine wpOp_off rfl rfl rfl rfl fg ?_
     exact hJ2.put hS 10 24 rfl (by omega) z5 (fun _ _ h => h) undef rfl
   | 11, ho =>
     cases ho
     have fg : aq.tmps.getD 21 undef = .bool true := z6 7 21 (hall ⟨7, .guard⟩ (by simp) rfl) rfl
     refine wpOp_off rfl rfl rfl rfl fg ?_
     exact hJ2.put hS 11 25 rfl (by omega) z5 (fun _ _ h => h) undef rfl
   | 12, ho =>
     cases ho
     have fg : aq.tmps.getD 21 undef = .bool true := z6 7 21 (hall ⟨7, .guard⟩ (by simp) rfl) rfl
     refine wpOp_off rfl rfl rfl rfl fg ?_
     exact hJ2.put hS 12 26 rfl (by omega) z5 (fun _ _ h => h) undef rfl
   | 13, ho =>
     cases ho
     have fg : aq.tmps.getD 21 undef = .bool true := z6 7 21 (hall ⟨7, .guard⟩ (by simp) rfl) rfl
     refine wpOp_off rfl rfl rfl rfl fg ?_
     exact hJ2.put hS 13 27 rfl (by omega) z5 (fun _ _ h => h) undef rfl
   | 14, ho =>
     cases ho
     have fg : aq.tmps.getD 21 undef = .bool true := z6 7 21 (hall ⟨7, .guard⟩ (by simp) rfl) rfl
     refine wpOp_off rfl rfl rfl rfl fg ?_
     exact hJ2.put hS 14 28 rfl (by omega) z5 (fun _ _ h => h) undef rfl
   | 15, ho =>
     cases ho
     refine wpOp_of rfl rfl ?_
     have f7 : (aq.tmps.getD 21 undef) = .bool true := z6 7 21 (hall ⟨7, .data⟩ (by simp) rfl) rfl
     have f14 : (aq.tmps.getD 28 undef) = undef := z6 14 28 (hall ⟨14, .data⟩ (by simp) rfl) rfl
     have hK := fun (v : Value) (W2 : World) hW hT hv => hJ2.put hS 15 29 rfl (by omega) (W' := W2) hW hT v hv
     clear ho hall hl hQ
     generalize InvQ _ _ _ w0 a0 (lq.setIfInBounds 15 true) = K at hK ⊢
     clear hJ2 hS z1 z2 z3 z4 z6 z7
     go_simp
     exact hK _ _ z5 (fun _ _ h => h) rfl
   | 16, ho =>
     cases ho
     refine wpOp_of rfl rfl ?_
     have f15 : (aq.tmps.getD 29 undef) = .bool true := z6 15 29 (hall ⟨15, .data⟩ (by simp) rfl) rfl
     have hK := fun (v : Value) (W2 : World) hW hT hv => hJ2.put hS 16 30 rfl (by omega) (W' := W2) hW hT v hv
     clear ho hall hl hQ
     generalize InvQ _ _ _ w0 a0 (lq.setIfInBounds 16 true) = K at hK ⊢
     clear hJ2 hS z1 z2 z3 z4 z6 z7
     go_simp
     exact hK _ _ z5 (fun _ _ h => h) rfl
   | 17, ho =>
     cases ho
     have fg : aq.tmps.getD 30 undef = .bool true := z6 16 30 (hall ⟨16, .guard⟩ (by simp) rfl) rfl
     refine wpOp_off rfl rfl rfl rfl fg ?_
     exact hJ2.put hS 17 31 rfl (by omega) z5 (fun _ _ h => h) undef rfl
   | 18, ho =>
     cases ho
     have fg : aq.tmps.getD 30 undef = .bool true := z6 16 30 (hall ⟨16, .guard⟩ (by simp) rfl) rfl
     refine wpOp_off rfl rfl rfl rfl fg ?_
     exact hJ2.put hS 18 32 rfl (by omega) z5 (fun _ _ h => h) undef rfl
   | 19, ho =>
     cases ho
     have fg : aq.tmps.getD 30 undef = .bool true := z6 16 30 (hall ⟨16, .guard⟩ (by simp) rfl) rfl
     refine wpOp_off rfl rfl rfl rfl fg ?_
     exact hJ2.put hS 19 33 rfl (by omega) z5 (fun _ _ h => h) undef rfl
   | 20, ho =>
     cases ho
     have fg : aq.tmps.getD 33 undef = undef := z6 19 33 (hall ⟨19, .guard⟩ (by simp) rfl) rfl
     refine wpOp_offu rfl rfl rfl rfl fg ?_
     exact hJ2.put hS 20 34 rfl (by omega) z5 (fun _ _ h => h) undef rfl
   | 21, ho =>
     cases ho
     have fg : aq.tmps.getD 33 undef = undef := z6 19 33 (hall ⟨19, .guard⟩ (by simp) rfl) rfl
     refine wpOp_offu rfl rfl rfl rfl fg ?_
     exact hJ2.put hS 21 35 rfl (by omega) z5 (fun _ _ h => h) undef rfl
   | 22, ho =>
     cases ho
     have fg : aq.tmps.getD 33 undef = undef := z6 19 33 (hall ⟨19, .guard⟩ (by simp) rfl) rfl
     refine wpOp_offu rfl rfl rfl rfl fg ?_
     exact hJ2.put hS 22 36 rfl (by omega) z5 (fun _ _ h => h) undef rfl
   | 23, ho =>
     cases ho
     have fg : aq.tmps.getD 33 undef = undef := z6 19 33 (hall ⟨19, .guard⟩ (by simp) rfl) rfl
     refine wpOp_offu rfl rfl rfl rfl fg ?_
     exact hJ2.put hS 23 37 rfl (by omega) z5 (fun _ _ h => h) undef rfl
   | 24, ho =>
     cases ho
     have fg : aq.tmps.getD 33 undef = undef := z6 19 33 (hall ⟨19, .guard⟩ (by simp) rfl) rfl
     refine wpOp_offu rfl rfl rfl rfl fg ?_
     exact hJ2.put hS 24 38 rfl (by omega) z5 (fun _ _ h => h) undef rfl
   | 25, ho =>
     cases ho
     have fg : aq.tmps.getD 33 undef = undef := z6 19 33 (hall ⟨19, .guard⟩ (by simp) rfl) rfl
     refine wpOp_offu rfl rfl rfl rfl fg ?_
     exact hJ2.put hS 25 39 rfl (by omega) z5 (fun _ _ h => h) undef rfl
   | 26, ho =>
     cases ho
     have fg : aq.tmps.getD 33 undef = undef := z6 19 33 (hall ⟨19, .guard⟩ (by simp) rfl) rfl
     refine wpOp_offu rfl rfl rfl rfl fg ?_
     exact hJ2.put hS 26 40 rfl (by omega) z5 (fun _ _ h => h) undef rfl
   | 27, ho =>
     cases ho
     have fg : aq.tmps.getD 33 undef = undef := z6 19 33 (hall ⟨19, .guard⟩ (by simp) rfl) rfl
     refine wpOp_offu rfl rfl rfl rfl fg ?_
     exact hJ2.put hS 27 41 rfl (by omega) z5 (fun _ _ h => h) undef rfl
   | 28, ho =>
     cases ho
     have fg : aq.tmps.getD 33 undef = undef := z6 19 33 (hall ⟨19, .guard⟩ (by simp) rfl) rfl
     refine wpOp_offu rfl rfl rfl rfl fg ?_
     exact hJ2.put hS 28 42 rfl (by omega) z5 (fun _ _ h => h) undef rfl
   | 29, ho =>
     cases ho
     have fg : aq.tmps.getD 33 undef = undef := z6 19 33 (hall ⟨19, .guard⟩ (by simp) rfl) rfl
     refine wpOp_offu rfl rfl rfl rfl fg ?_
     exact hJ2.put hS 29 43 rfl (by omega) z5 (fun _ _ h => h) undef rfl
   | 30, ho =>
     cases ho
     have fg : aq.tmps.getD 33 undef = undef := z6 19 33 (hall ⟨19, .guard⟩ (by simp) rfl) rfl
     refine wpOp_offu rfl rfl rfl rfl fg ?_
     exact hJ2.put hS 30 44 rfl (by omega) z5 (fun _ _ h => h) undef rfl
   | 31, ho =>
     cases ho
     have fg : aq.tmps.getD 33 undef = undef := z6 19 33 (hall ⟨19, .guard⟩ (by simp) rfl) rfl
     refine wpOp_offu rfl rfl rfl rfl fg ?_
     exact hJ2.put hS 31 45 rfl (by omega) z5 (fun _ _ h => h) undef rfl
   | 32, ho =>
     cases ho
     have fg : aq.tmps.getD 33 undef = undef := z6 19 33 (hall ⟨19, .guard⟩ (by simp) rfl) rfl
     refine wpOp_offu rfl rfl rfl rfl fg ?_
     exact hJ2.put hS 32 46 rfl (by omega) z5 (fun _ _ h => h) undef rfl
   | 33, ho =>
     cases ho
     have fg : aq.tmps.getD 33 undef = undef := z6 19 33 (hall ⟨19, .guard⟩ (by simp) rfl) rfl
     refine wpOp_offu rfl rfl rfl rfl fg ?_
     exact hJ2.put hS 33 47 rfl (by omega) z5 (fun _ _ h => h) undef rfl
   | 34, ho =>
     cases ho
     have fg : aq.tmps.getD 33 undef = undef := z6 19 33 (hall ⟨19, .guard⟩ (by simp) rfl) rfl
     refine wpOp_offu rfl rfl rfl rfl fg ?_
     exact hJ2.put hS 34 48 rfl (by omega) z5 (fun _ _ h => h) undef rfl
   | 35, ho =>
     cases ho
     have fg : aq.tmps.getD 30 undef = .bool true := z6 16 30 (hall ⟨16, .guard⟩ (by simp) rfl) rfl
     refine wpOp_off rfl rfl rfl rfl fg ?_
     exact hJ2.put hS 35 49 rfl (by omega) z5 (fun _ _ h => h) undef rfl
   | 36, ho =>
     cases ho
     refine wpOp_of rfl rfl ?_
     have f16 : (aq.tmps.getD 30 undef) = .bool true := z6 16 30 (hall ⟨16, .data⟩ (by simp) rfl) rfl
     have f35 : (aq.tmps.getD 49 undef) = undef := z6 35 49 (hall ⟨35, .data⟩ (by simp) rfl) rfl
     have hK := fun (v : Value) (W2 : World) hW hT hv => hJ2.put hS 36 50 rfl (by omega) (W' := W2) hW hT v hv
     clear ho hall hl hQ
     generalize InvQ _ _ _ w0 a0 (lq.setIfInBounds 36 true) = K at hK ⊢
     clear hJ2 hS z1 z2 z3 z4 z6 z7
     go_simp
     exact hK _ _ z5 (fun _ _ h => h) rfl
   | iq + 37, ho => simp at ho
 · intro lq aq W hJ hr
   obtain ⟨z1, z2, z3, z4, z5, z6, z7⟩ := hJ
   have hl := listed_of hr [0, 1, 2, 3, 4, 5, 6, 7, 8, 9, 10, 11, 12, 13, 14, 15, 16, 17, 18, 19, 20, 21, 22, 23, 24, 25, 26, 27, 28, 29, 30, 31, 32, 33, 34, 35, 36] [] (by simp) (by kernel_rfl) (by rw [z1]; decide)
   exact hQ aq W z2 z3 (fun e he => z4 e (by simpa using he)) (z6 36 50 (hl 36 (by simp)) rfl) z5
def VevM_B (n cap A off c m mc : Nat) (eo : Option Addr) (x y z : Int) (_B : Nat) : Nat → Value → World → Prop
 | 0, v, _ => v = .slice (some ⟨A, off, none⟩) n cap
 | 1, v, _ => v = .int .i64 (c : Int)
 | 2, v, _ => v = .pointer (some ⟨A, off + c * 13, none⟩)
 | 3, v, _ => v = .pointer (some ⟨A, off + c * 13, none⟩)
 | 4, v, _ => v = PV x y z
 | 5, v, _ => v = .bool (ptB x y z)
 | 6, v, _ => v = .bool false
 | 7, v, _ => v = .bool false
 | 8, v, _ => v = .slice (some ⟨A, off, none⟩) n cap
 | 9, v, _ => v = .int .i64 (c : Int)
 | 10, v, _ => v = .pointer (some ⟨A, off + c * 13, none⟩)
 | 11, v, _ => v = .pointer (some ⟨A, off + c * 13 + 12, none⟩)
 | 12, v, _ => v = .slice eo m mc
 | 13, v, _ => v = .int .i64 (m : Int)
 | 14, v, _ => v = .bool true
 | 15, v, _ => v = .bool true
 | 16, v, _ => v = .bool true
 | 17, v, _ => v = undef
 | 18, v, _ => v = undef
 | 19, v, _ => v = undef
 | 20, v, _ => v = undef
 | 21, v, _ => v = undef
 | 22, v, _ => v = undef
 | 23, v, _ => v = undef
 | 24, v, _ => v = undef
 | 25, v, _ => v = undef
 | 26, v, _ => v = undef
 | 27, v, _ => v = undef
 | 28, v, _ => v = undef
 | 29, v, _ => v = undef
 | 30, v, _ => v = undef
 | 31, v, _ => v = undef
 | 32, v, _ => v = undef
 | 33, v, _ => v = undef
 | 34, v, _ => v = undef
 | 35, v, _ => v = undef
 | 36, v, _ => v = .bool true
 | _, _, _ => True
theorem VevM_B.mono {n cap A off c m mc : Nat} {eo : Option Addr} {x y z : Int} {B j : Nat} {v : Value} {W W2 : World} (_hB : Below W.heap.size W W2) (h : VevM_B n cap A off c m mc eo x y z B j v W) : VevM_B n cap A off c m mc eo x y z B j v W2 := by
 unfold VevM_B at *
 split <;> simp only at h <;> first | exact h | trivial
theorem evM_B {Q : Exit → Act → World → Prop} {n cap A off c m mc : Nat} {eo : Option Addr} {x y z : Int}  {w0 : World} {a0 : Act} {idq : Nat} {t0 t1 t2 t3 t4 t5 t6 t7 t8 t9 t10 t11 t12 t13 t14 t15 t16 t17 t18 t19 t20 t21 t22 t23 t24 t25 t26 t27 t28 t29 t30 t31 t32 t33 t34 t35 t36 : TypeId} {q0 q1 q2 q3 q4 q5 q6 q7 q8 q9 q10 q11 q12 q13 q14 q15 q16 q17 q18 q19 q20 q21 q22 q23 q24 q25 q26 q27 q28 q29 q30 q31 q32 q33 q34 q35 q36 : String}
   (hc : c < n) (hn : n ≤ 200) (ta : told x = true) (tb : told y = true) (tc : told z = true) (hp : ptB x y z = true) (hm : m < 1) (h0 : a0.tmps[0]? = some (.slice (some ⟨A, off, none⟩) n cap)) (h3 : a0.tmps[3]? = some (.int .i64 (c : Int))) (k0 : w0.cell? ⟨A, off + c * 13, none⟩ = some (.int .u64 (ww3 x))) (l0 : (⟨A, off + c * 13, none⟩ : Addr).block < w0.heap.size) (k1 : w0.cell? ⟨A, off + c * 13 + 1, none⟩ = some (.int .u64 (ww2 x))) (l1 : (⟨A, off + c * 13 + 1, none⟩ : Addr).block < w0.heap.size) (k2 : w0.cell? ⟨A, off + c * 13 + 2, none⟩ = some (.int .u64 (ww1 x))) (l2 : (⟨A, off + c * 13 + 2, none⟩ : Addr).block < w0.heap.size) (k3 : w0.cell? ⟨A, off + c * 13 + 3, none⟩ = some (.int .u64 (ww0 x))) (l3 : (⟨A, off + c * 13 + 3, none⟩ : Addr).block < w0.heap.size) (k4 : w0.cell? ⟨A, off + c * 13 + 4, none⟩ = some (.int .u64 (ww3 y))) (l4 : (⟨A, off + c * 13 + 4, none⟩ : Addr).block < w0.heap.size) (k5 : w0.cell? ⟨A, off + c * 13 + 5, none⟩ = some (.int .u64 (ww2 y))) (l5 : (⟨A, off + c * 13 + 5, none⟩ : Addr).block < w0.heap.size) (k6 : w0.cell? ⟨A, off + c * 13 + 6, none⟩ = some (.int .u64 (ww1 y))) (l6 : (⟨A, off + c * 13 + 6, none⟩ : Addr).block < w0.heap.size) (k7 : w0.cell? ⟨A, off + c * 13 + 7, none⟩ = some (.int .u64 (ww0 y))) (l7 : (⟨A, off + c * 13 + 7, none⟩ : Addr).block < w0.heap.size) (k8 : w0.cell? ⟨A, off + c * 13 + 8, none⟩ = some (.int .u64 (ww3 z))) (l8 : (⟨A, off + c * 13 + 8, none⟩ : Addr).block < w0.heap.size) (k9 : w0.cell? ⟨A, off + c * 13 + 9, none⟩ = some (.int .u64 (ww2 z))) (l9 : (⟨A, off + c * 13 + 9, none⟩ : Addr).block < w0.heap.size) (k10 : w0.cell? ⟨A, off + c * 13 + 10, none⟩ = some (.int .u64 (ww1 z))) (l10 : (⟨A, off + c * 13 + 10, none⟩ : Addr).block < w0.heap.size) (k11 : w0.cell? ⟨A, off + c * 13 + 11, none⟩ = some (.int .u64 (ww0 z))) (l11 : (⟨A, off + c * 13 + 11, none⟩ : Addr).block < w0.heap.size) (k12 : w0.cell? ⟨A, off + c * 13 + 12, none⟩ = some (.slice eo m mc)) (l12 : (⟨A, off + c * 13 + 12, none⟩ : Addr).block < w0.heap.size) (hz : a0.tmps.size = 95)
   (hQ : ∀ aq W, aq.tmps.size = a0.tmps.size → aq.defers = a0.defers → (∀ e, e ∉ ([14, 15, 16, 17, 18, 19, 20, 21, 22, 23, 24, 25, 26, 27, 28, 29, 30, 31, 32, 33, 34, 35, 36, 37, 38, 39, 40, 41, 42, 43, 44, 45, 46, 47, 48, 49, 50] : List Nat) → aq.tmps[e]? = a0.tmps[e]?) → VevM_B n cap A off c m mc eo x y z w0.heap.size 36 (aq.tmps.getD 50 undef) W → Below w0.heap.size w0 W → Q .normal aq W) :
   (Code.region idq #[{ dst := some 14, op := Op.move (.tmp 0), type := t0, pos := q0, after := #[], guard := none },
   { dst := some 15, op := Op.move (.tmp 3), type := t1, pos := q1, after := #[], guard := none },
   { dst := some 16, op := Op.indexAddr 44 (.tmp 14) (.tmp 15), type := t2, pos := q2, after := #[⟨0, .data⟩, ⟨1, .data⟩], guard := none },
   { dst := some 17, op := Op.fieldAddr 81 (.tmp 16) 0, type := t3, pos := q3, after := #[⟨2, .data⟩], guard := none },
   { dst := some 18, op := Op.load 35 (.tmp 17), type := t4, pos := q4, after := #[⟨3, .data⟩], guard := none },
   { dst := some 19, op := Op.call { callee := Callee.value (Operand.func 23), args := #[.tmp 18], argTypes := #[35] }, type := t5, pos := q5, after := #[⟨4, .data⟩], guard := none },
   { dst := some 20, op := Op.unOp UnOp.not 4 (.tmp 19), type := t6, pos := q6, after := #[⟨5, .data⟩], guard := none },
   { dst := some 21, op := Op.move (.tmp 20), type := t7, pos := q7, after := #[⟨6, .data⟩, ⟨5, .chain⟩], guard := none },
   { dst := some 22, op := Op.move (.tmp 0), type := t8, pos := q8, after := #[⟨7, .guard⟩], guard := some (7, false) },
   { dst := some 23, op := Op.move (.tmp 3), type := t9, pos := q9, after := #[⟨7, .guard⟩], guard := some (7, false) },
   { dst := some 24, op := Op.indexAddr 44 (.tmp 22) (.tmp 23), type := t10, pos := q10, after := #[⟨8, .data⟩, ⟨9, .data⟩, ⟨7, .guard⟩], guard := some (7, false) },
   { dst := some 25, op := Op.fieldAddr 81 (.tmp 24) 1, type := t11, pos := q11, after := #[⟨10, .data⟩, ⟨7, .guard⟩], guard := some (7, false) },
   { dst := some 26, op := Op.load 29 (.tmp 25), type := t12, pos := q12, after := #[⟨11, .data⟩, ⟨7, .guard⟩], guard := some (7, false) },
   { dst := some 27, op := Op.call { callee := Callee.builtin Builtin.len, args := #[.tmp 26], argTypes := #[29] }, type := t13, pos := q13, after := #[⟨12, .data⟩, ⟨7, .guard⟩], guard := some (7, false) },
   { dst := some 28, op := Op.binOp BinOp.lss 3 (.tmp 27) (Operand.const (Value.int IntKind.i64 1)) 3, type := t14, pos := q14, after := #[⟨13, .data⟩, ⟨7, .guard⟩], guard := some (7, false) },
   { dst := some 29, op := Op.pick (.tmp 21) (Operand.const (Value.bool true)) (.tmp 28), type := t15, pos := q15, after := #[⟨7, .data⟩, ⟨14, .data⟩], guard := none },
   { dst := some 30, op := Op.move (.tmp 29), type := t16, pos := q16, after := #[⟨15, .data⟩, ⟨7, .chain⟩], guard := none },
   { dst := some 31, op := Op.move (.tmp 3), type := t17, pos := q17, after := #[⟨16, .guard⟩], guard := some (16, false) },
   { dst := some 32, op := Op.binOp BinOp.gtr 3 (.tmp 31) (Operand.const (Value.int IntKind.i64 0)) 3, type := t18, pos := q18, after := #[⟨17, .data⟩, ⟨16, .guard⟩], guard := some (16, false) },
   { dst := some 33, op := Op.move (.tmp 32), type := t19, pos := q19, after := #[⟨18, .data⟩, ⟨16, .chain⟩, ⟨16, .guard⟩], guard := some (16, false) },
   { dst := some 34, op := Op.move (.tmp 0), type := t20, pos := q20, after := #[⟨19, .guard⟩], guard := some (19, true) },
   { dst := some 35, op := Op.move (.tmp 3), type := t21, pos := q21, after := #[⟨19, .guard⟩], guard := some (19, true) },
   { dst := some 36, op := Op.binOp BinOp.sub 3 (.tmp 35) (Operand.const (Value.int IntKind.i64 1)) 3, type := t22, pos := q22, after := #[⟨21, .data⟩, ⟨19, .guard⟩], guard := some (19, true) },
   { dst := some 37, op := Op.indexAddr 44 (.tmp 34) (.tmp 36), type := t23, pos := q23, after := #[⟨20, .data⟩, ⟨22, .data⟩, ⟨19, .guard⟩], guard := some (19, true) },
   { dst := some 38, op := Op.fieldAddr 81 (.tmp 37) 0, type := t24, pos := q24, after := #[⟨23, .data⟩, ⟨19, .guard⟩], guard := some (19, true) },
   { dst := some 39, op := Op.load 35 (.tmp 38), type := t25, pos := q25, after := #[⟨24, .data⟩, ⟨19, .guard⟩], guard := some (19, true) },
   { dst := some 40, op := Op.call { callee := Callee.value (Operand.func 25), args := #[.tmp 39], argTypes := #[35] }, type := t26, pos := q26, after := #[⟨25, .data⟩, ⟨19, .chain⟩, ⟨19, .guard⟩], guard := some (19, true) },
   { dst := some 41, op := Op.move (.tmp 0), type := t27, pos := q27, after := #[⟨19, .guard⟩], guard := some (19, true) },
   { dst := some 42, op := Op.move (.tmp 3), type := t28, pos := q28, after := #[⟨19, .guard⟩], guard := some (19, true) },
   { dst := some 43, op := Op.indexAddr 44 (.tmp 41) (.tmp 42), type := t29, pos := q29, after := #[⟨27, .data⟩, ⟨28, .data⟩, ⟨19, .guard⟩], guard := some (19, true) },
   { dst := some 44, op := Op.fieldAddr 81 (.tmp 43) 0, type := t30, pos := q30, after := #[⟨29, .data⟩, ⟨19, .guard⟩], guard := some (19, true) },
   { dst := some 45, op := Op.load 35 (.tmp 44), type := t31, pos := q31, after := #[⟨30, .data⟩, ⟨19, .guard⟩], guard := some (19, true) },
   { dst := some 46, op := Op.call { callee := Callee.value (Operand.func 25), args := #[.tmp 45], argTypes := #[35] }, type := t32, pos := q32, after := #[⟨31, .data⟩, ⟨26, .chain⟩, ⟨19, .guard⟩], guard := some (19, true) },
   { dst := some 47, op := Op.call { callee := Callee.value (Operand.func 36), args := #[.tmp 40, .tmp 46], argTypes := #[58, 58] }, type := t33, pos := q33, after := #[⟨26, .data⟩, ⟨32, .data⟩, ⟨32, .chain⟩, ⟨19, .guard⟩], guard := some (19, true) },
   { dst := some 48, op := Op.binOp BinOp.geq 2 (.tmp 47) (Operand.const (Value.int IntKind.i64 0)) 2, type := t34, pos := q34, after := #[⟨33, .data⟩, ⟨19, .guard⟩], guard := some (19, true) },
   { dst := some 49, op := Op.pick (.tmp 33) (.tmp 48) (Operand.const (Value.bool false)), type := t35, pos := q35, after := #[⟨19, .data⟩, ⟨34, .data⟩, ⟨16, .guard⟩], guard := some (16, false) },
   { dst := some 50, op := Op.pick (.tmp 30) (Operand.const (Value.bool true)) (.tmp 49), type := t36, pos := q36, after := #[⟨16, .data⟩, ⟨35, .data⟩], guard := none }] true).wp Tryz.prog Q a0 w0 := by
 have hS : distS [some 14, some 15, some 16, some 17, some 18, some 19, some 20, some 21, some 22, some 23, some 24, some 25, some 26, some 27, some 28, some 29, some 30, some 31, some 32, some 33, some 34, some 35, some 36, some 37, some 38, some 39, some 40, some 41, some 42, some 43, some 44, some 45, some 46, some 47, some 48, some 49, some 50] = true := rfl
 refine wp_region_q (by kernel_rfl) w0.heap.size [some 14, some 15, some 16, some 17, some 18, some 19, some 20, some 21, some 22, some 23, some 24, some 25, some 26, some 27, some 28, some 29, some 30, some 31, some 32, some 33, some 34, some 35, some 36, some 37, some 38, some 39, some 40, some 41, some 42, some 43, some 44, some 45, some 46, some 47, some 48, some 49, some 50] (VevM_B n cap A off c m mc eo x y z w0.heap.size) rfl ?_ ?_
 · intro Q lq aq W iq oq hJ hl ho hall
   have hJ2 := hJ
   obtain ⟨z1, z2, z3, z4, z5, z6, z7⟩ := hJ
   have g0 : aq.tmps.getD 0 undef = .slice (some ⟨A, off, none⟩) n cap := by rw [Array.getD_eq_getD_getElem?, z4 0 (by decide), h0]; rfl
   have g3 : aq.tmps.getD 3 undef = .int .i64 (c : Int) := by rw [Array.getD_eq_getD_getElem?, z4 3 (by decide), h3]; rfl
   have c0 : W.cell? ⟨A, off + c * 13, none⟩ = some (.int .u64 (ww3 x)) := (z5.cell l0).trans k0
   have c1 : W.cell? ⟨A, off + c * 13 + 1, none⟩ = some (.int .u64 (ww2 x)) := (z5.cell l1).trans k1
   have c2 : W.cell? ⟨A, off + c * 13 + 2, none⟩ = some (.int .u64 (ww1 x)) := (z5.cell l2).trans k2
   have c3 : W.cell? ⟨A, off + c * 13 + 3, none⟩ = some (.int .u64 (ww0 x)) := (z5.cell l3).trans k3
   have c4 : W.cell? ⟨A, off + c * 13 + 4, none⟩ = some (.int .u64 (ww3 y)) := (z5.cell l4).trans k4
   have c5 : W.cell? ⟨A, off + c * 13 + 5, none⟩ = some (.int .u64 (ww2 y)) := (z5.cell l5).trans k5
   have c6 : W.cell? ⟨A, off + c * 13 + 6, none⟩ = some (.int .u64 (ww1 y)) := (z5.cell l6).trans k6
   have c7 : W.cell? ⟨A, off + c * 13 + 7, none⟩ = some (.int .u64 (ww0 y)) := (z5.cell l7).trans k7
   have c8 : W.cell? ⟨A, off + c * 13 + 8, none⟩ = some (.int .u64 (ww3 z)) := (z5.cell l8).trans k8
   have c9 : W.cell? ⟨A, off + c * 13 + 9, none⟩ = some (.int .u64 (ww2 z)) := (z5.cell l9).trans k9
   have c10 : W.cell? ⟨A, off + c * 13 + 10, none⟩ = some (.int .u64 (ww1 z)) := (z5.cell l10).trans k10
   have c11 : W.cell? ⟨A, off + c * 13 + 11, none⟩ = some (.int .u64 (ww0 z)) := (z5.cell l11).trans k11
   have c12 : W.cell? ⟨A, off + c * 13 + 12, none⟩ = some (.slice eo m mc) := (z5.cell l12).trans k12
   match iq, ho with
   | 0, ho =>
     cases ho
     refine wpOp_of rfl rfl ?_
     have hK := fun (v : Value) (W2 : World) hW hT hv => hJ2.put hS 0 14 rfl (by omega) (W' := W2) hW hT v hv
     clear ho hall hl hQ
     generalize InvQ _ _ _ w0 a0 (lq.setIfInBounds 0 true) = K at hK ⊢
     clear hJ2 hS z1 z2 z3 z4 z6 z7
     go_simp
     exact hK _ _ z5 (fun _ _ h => h) rfl
   | 1, ho =>
     cases ho
     refine wpOp_of rfl rfl ?_
     have hK := fun (v : Value) (W2 : World) hW hT hv => hJ2.put hS 1 15 rfl (by omega) (W' := W2) hW hT v hv
     clear ho hall hl hQ
     generalize InvQ _ _ _ w0 a0 (lq.setIfInBounds 1 true) = K at hK ⊢
     clear hJ2 hS z1 z2 z3 z4 z6 z7
     go_simp
     exact hK _ _ z5 (fun _ _ h => h) rfl
   | 2, ho =>
     cases ho
     refine wpOp_of rfl rfl ?_
     have f0 : (aq.tmps.getD 14 undef) = .slice (some ⟨A, off, none⟩) n cap := z6 0 14 (hall ⟨0, .data⟩ (by simp) rfl) rfl
     have f1 : (aq.tmps.getD 15 undef) = .int .i64 (c : Int) := z6 1 15 (hall ⟨1, .data⟩ (by simp) rfl) rfl
     have hcI : (c : Int) < n := by omega
     have hnI : (n : Int) ≤ 200 := by omega
     have hK := fun (v : Value) (W2 : World) hW hT hv => hJ2.put hS 2 16 rfl (by omega) (W' := W2) hW hT v hv
     clear ho hall hl hQ
     generalize InvQ _ _ _ w0 a0 (lq.setIfInBounds 2 true) = K at hK ⊢
     clear hJ2 hS z1 z2 z3 z4 z6 z7
     go_simp
     exact hK _ _ z5 (fun _ _ h => h) rfl
   | 3, ho =>
     cases ho
     refine wpOp_of rfl rfl ?_
     have f2 : (aq.tmps.getD 16 undef) = .pointer (some ⟨A, off + c * 13, none⟩) := z6 2 16 (hall ⟨2, .data⟩ (by simp) rfl) rfl
     have hK := fun (v : Value) (W2 : World) hW hT hv => hJ2.put hS 3 17 rfl (by omega) (W' := W2) hW hT v hv
     clear ho hall hl hQ
     generalize InvQ _ _ _ w0 a0 (lq.setIfInBounds 3 true) = K at hK ⊢
     clear hJ2 hS z1 z2 z3 z4 z6 z7
     go_simp
     exact hK _ _ z5 (fun _ _ h => h) rfl
   | 4, ho =>
     cases ho
     refine wpOp_of rfl rfl ?_
     have f3 : (aq.tmps.getD 17 undef) = .pointer (some ⟨A, off + c * 13, none⟩) := z6 3 17 (hall ⟨3, .data⟩ (by simp) rfl) rfl
     have hK := fun (v : Value) (W2 : World) hW hT hv => hJ2.put hS 4 18 rfl (by omega) (W' := W2) hW hT v hv
     clear ho hall hl hQ
     generalize InvQ _ _ _ w0 a0 (lq.setIfInBounds 4 true) = K at hK ⊢
     clear hJ2 hS z1 z2 z3 z4 z6 z7
     go_simp
     exact hK _ _ z5 (fun _ _ h => h) rfl
   | 5, ho =>
     cases ho
     refine wpOp_of rfl rfl ?_
     have f4 : (aq.tmps.getD 18 undef) = PV x y z := z6 4 18 (hall ⟨4, .data⟩ (by simp) rfl) rfl
     have hK := fun (v : Value) (W2 : World) hW hT hv => hJ2.put hS 5 19 rfl (by omega) (W' := W2) hW hT v hv
     clear ho hall hl hQ
     generalize InvQ _ _ _ w0 a0 (lq.setIfInBounds 5 true) = K at hK ⊢
     clear hJ2 hS z1 z2 z3 z4 z6 z7
     go_simp
     refine (specPointOk_det x y z ta tb tc W).mono ?_
     rintro e v1 ⟨rfl, hBv⟩
     exact hK _ _ (z5.trans (hBv.mono z5.size)) (fun j v h => h.mono hBv) rfl
   | 6, ho =>
     cases ho
     refine wpOp_of rfl rfl ?_
     have f5 : (aq.tmps.getD 19 undef) = .bool (ptB x y z) := z6 5 19 (hall ⟨5, .data⟩ (by simp) rfl) rfl
     rw [hp] at f5
     have hK := fun (v : Value) (W2 : World) hW hT hv => hJ2.put hS 6 20 rfl (by omega) (W' := W2) hW hT v hv
     clear ho hall hl hQ
     generalize InvQ _ _ _ w0 a0 (lq.setIfInBounds 6 true) = K at hK ⊢
     clear hJ2 hS z1 z2 z3 z4 z6 z7
     go_simp
     exact hK _ _ z5 (fun _ _ h => h) rfl
   | 7, ho =>
     cases ho
     refine wpOp_of rfl rfl ?_
     have f6 : (aq.tmps.getD 20 undef) = .bool false := z6 6 20 (hall ⟨6, .data⟩ (by simp) rfl) rfl
     have hK := fun (v : Value) (W2 : World) hW hT hv => hJ2.put hS 7 21 rfl (by omega) (W' := W2) hW hT v hv
     clear ho hall hl hQ
     generalize InvQ _ _ _ w0 a0 (lq.setIfInBounds 7 true) = K at hK ⊢
     clear hJ2 hS z1 z2 z3 z4 z6 z7
     go_simp
     exact hK _ _ z5 (fun _ _ h => h) rfl
   | 8, ho =>
     cases ho
     have fg : aq.tmps.getD 21 undef = .bool false := z6 7 21 (hall ⟨7, .guard⟩ (by simp) rfl) rfl
     refine wpOp_on rfl rfl rfl rfl fg ?_
     have hK := fun (v : Value) (W2 : World) hW hT hv => hJ2.put hS 8 22 rfl (by omega) (W' := W2) hW hT v hv
     clear ho hall hl hQ
     generalize InvQ _ _ _ w0 a0 (lq.setIfInBounds 8 true) = K at hK ⊢
     clear hJ2 hS z1 z2 z3 z4 z6 z7
     go_simp
     exact hK _ _ z5 (fun _ _ h => h) rfl
   | 9, ho =>
     cases ho
     have fg : aq.tmps.getD 21 undef = .bool false := z6 7 21 (hall ⟨7, .guard⟩ (by simp) rfl) rfl
     refine wpOp_on rfl rfl rfl rfl fg ?_
     have hK := fun (v : Value) (W2 : World) hW hT hv => hJ2.put hS 9 23 rfl (by omega) (W' := W2) hW hT v hv
     clear ho hall hl hQ
     generalize InvQ _ _ _ w0 a0 (lq.setIfInBounds 9 true) = K at hK ⊢
     clear hJ2 hS z1 z2 z3 z4 z6 z7
     go_simp
     exact hK _ _ z5 (fun _ _ h => h) rfl
   | 10, ho =>
     cases ho
     have fg : aq.tmps.getD 21 undef = .bool false := z6 7 21 (hall ⟨7, .guard⟩ (by simp) rfl) rfl
     refine wpOp_on rfl rfl rfl rfl fg ?_
     have f8 : (aq.tmps.getD 22 undef) = .slice (some ⟨A, off, none⟩) n cap := z6 8 22 (hall ⟨8, .data⟩ (by simp) rfl) rfl
     have f9 : (aq.tmps.getD 23 undef) = .int .i64 (c : Int) := z6 9 23 (hall ⟨9, .data⟩ (by simp) rfl) rfl
     have hcI : (c : Int) < n := by omega
     have hnI : (n : Int) ≤ 200 := by omega
     have hK := fun (v : Value) (W2 : World) hW hT hv => hJ2.put hS 10 24 rfl (by omega) (W' := W2) hW hT v hv
     clear ho hall hl hQ
     generalize InvQ _ _ _ w0 a0 (lq.setIfInBounds 10 true) = K at hK ⊢
     clear hJ2 hS z1 z2 z3 z4 z6 z7
     go_simp
     exact hK _ _ z5 (fun _ _ h => h) rfl
   | 11, ho =>
     cases ho
     have fg : aq.tmps.getD 21 undef = .bool false := z6 7 21 (hall ⟨7, .guard⟩ (by simp) rfl) rfl
     refine wpOp_on rfl rfl rfl rfl fg ?_
     have f10 : (aq.tmps.getD 24 undef) = .pointer (some ⟨A, off + c * 13, none⟩) := z6 10 24 (hall ⟨10, .data⟩ (by simp) rfl) rfl
     have hK := fun (v : Value) (W2 : World) hW hT hv => hJ2.put hS 11 25 rfl (by omega) (W' := W2) hW hT v hv
     clear ho hall hl hQ
     generalize InvQ _ _ _ w0 a0 (lq.setIfInBounds 11 true) = K at hK ⊢
     clear hJ2 hS z1 z2 z3 z4 z6 z7
     go_simp
     exact hK _ _ z5 (fun _ _ h => h) rfl
   | 12, ho =>
     cases ho
     have fg : aq.tmps.getD 21 undef = .bool false := z6 7 21 (hall ⟨7, .guard⟩ (by simp) rfl) rfl
     refine wpOp_on rfl rfl rfl rfl fg ?_
     have f11 : (aq.tmps.getD 25 undef) = .pointer (some ⟨A, off + c * 13 + 12, none⟩) := z6 11 25 (hall ⟨11, .data⟩ (by simp) rfl) rfl
     have hK := fun (v : Value) (W2 : World) hW hT hv => hJ2.put hS 12 26 rfl (by omega) (W' := W2) hW hT v hv
     clear ho hall hl hQ
     generalize InvQ _ _ _ w0 a0 (lq.setIfInBounds 12 true) = K at hK ⊢
     clear hJ2 hS z1 z2 z3 z4 z6 z7
     go_simp
     exact hK _ _ z5 (fun _ _ h => h) rfl
   | 13, ho =>
     cases ho
     have fg : aq.tmps.getD 21 undef = .bool false := z6 7 21 (hall ⟨7, .guard⟩ (by simp) rfl) rfl
     refine wpOp_on rfl rfl rfl rfl fg ?_
     have f12 : (aq.tmps.getD 26 undef) = .slice eo m mc := z6 12 26 (hall ⟨12, .data⟩ (by simp) rfl) rfl
     have hK := fun (v : Value) (W2 : World) hW hT hv => hJ2.put hS 13 27 rfl (by omega) (W' := W2) hW hT v hv
     clear ho hall hl hQ
     generalize InvQ _ _ _ w0 a0 (lq.setIfInBounds 13 true) = K at hK ⊢
     clear hJ2 hS z1 z2 z3 z4 z6 z7
     go_simp
     exact hK _ _ z5 (fun _ _ h => h) rfl
   | 14, ho =>
     cases ho
     have fg : aq.tmps.getD 21 undef = .bool false := z6 7 21 (hall ⟨7, .guard⟩ (by simp) rfl) rfl
     refine wpOp_on rfl rfl rfl rfl fg ?_
     have f13 : (aq.tmps.getD 27 undef) = .int .i64 (m : Int) := z6 13 27 (hall ⟨13, .data⟩ (by simp) rfl) rfl
     have hgt : (m : Int) < 1 := by omega
     have hK := fun (v : Value) (W2 : World) hW hT hv => hJ2.put hS 14 28 rfl (by omega) (W' := W2) hW hT v hv
     clear ho hall hl hQ
     generalize InvQ _ _ _ w0 a0 (lq.setIfInBounds 14 true) = K at hK ⊢
     clear hJ2 hS z1 z2 z3 z4 z6 z7
     go_simp
     exact hK _ _ z5 (fun _ _ h => h) rfl
   | 15, ho =>
     cases ho
     refine wpOp_of rfl rfl ?_
     have f7 : (aq.tmps.getD 21 undef) = .bool false := z6 7 21 (hall ⟨7, .data⟩ (by simp) rfl) rfl
     have f14 : (aq.tmps.getD 28 undef) = .bool true := z6 14 28 (hall ⟨14, .data⟩ (by simp) rfl) rfl
     have hK := fun (v : Value) (W2 : World) hW hT hv => hJ2.put hS 15 29 rfl (by omega) (W' := W2) hW hT v hv
     clear ho hall hl hQ
     generalize InvQ _ _ _ w0 a0 (lq.setIfInBounds 15 true) = K at hK ⊢
     clear hJ2 hS z1 z2 z3 z4 z6 z7
     go_simp
     exact hK _ _ z5 (fun _ _ h => h) rfl
   | 16, ho =>
     cases ho
     refine wpOp_of rfl rfl ?_
     have f15 : (aq.tmps.getD 29 undef) = .bool true := z6 15 29 (hall ⟨15, .data⟩ (by simp) rfl) rfl
     have hK := fun (v : Value) (W2 : World) hW hT hv => hJ2.put hS 16 30 rfl (by omega) (W' := W2) hW hT v hv
     clear ho hall hl hQ
     generalize InvQ _ _ _ w0 a0 (lq.setIfInBounds 16 true) = K at hK ⊢
     clear hJ2 hS z1 z2 z3 z4 z6 z7
     go_simp
     exact hK _ _ z5 (fun _ _ h => h) rfl
   | 17, ho =>
     cases ho
     have fg : aq.tmps.getD 30 undef = .bool true := z6 16 30 (hall ⟨16, .guard⟩ (by simp) rfl) rfl
     refine wpOp_off rfl rfl rfl rfl fg ?_
     exact hJ2.put hS 17 31 rfl (by omega) z5 (fun _ _ h => h) undef rfl
   | 18, ho =>
     cases ho
     have fg : aq.tmps.getD 30 undef = .bool true := z6 16 30 (hall ⟨16, .guard⟩ (by simp) rfl) rfl
     refine wpOp_off rfl rfl rfl rfl fg ?_
     exact hJ2.put hS 18 32 rfl (by omega) z5 (fun _ _ h => h) undef rfl
   | 19, ho =>
     cases ho
     have fg : aq.tmps.getD 30 undef = .bool true := z6 16 30 (hall ⟨16, .guard⟩ (by simp) rfl) rfl
     refine wpOp_off rfl rfl rfl rfl fg ?_
     exact hJ2.put hS 19 33 rfl (by omega) z5 (fun _ _ h => h) undef rfl
   | 20, ho =>
     cases ho
     have fg : aq.tmps.getD 33 undef = undef := z6 19 33 (hall ⟨19, .guard⟩ (by simp) rfl) rfl
     refine wpOp_offu rfl rfl rfl rfl fg ?_
     exact hJ2.put hS 20 34 rfl (by omega) z5 (fun _ _ h => h) undef rfl
   | 21, ho =>
     cases ho
     have fg : aq.tmps.getD 33 undef = undef := z6 19 33 (hall ⟨19, .guard⟩ (by simp) rfl) rfl
     refine wpOp_offu rfl rfl rfl rfl fg ?_
     exact hJ2.put hS 21 35 rfl (by omega) z5 (fun _ _ h => h) undef rfl
   | 22, ho =>
     cases ho
     have fg : aq.tmps.getD 33 undef = undef := z6 19 33 (hall ⟨19, .guard⟩ (by simp) rfl) rfl
     refine wpOp_offu rfl rfl rfl rfl fg ?_
     exact hJ2.put hS 22 36 rfl (by omega) z5 (fun _ _ h => h) undef rfl
   | 23, ho =>
     cases ho
     have fg : aq.tmps.getD 33 undef = undef := z6 19 33 (hall ⟨19, .guard⟩ (by simp) rfl) rfl
     refine wpOp_offu rfl rfl rfl rfl fg ?_
     exact hJ2.put hS 23 37 rfl (by omega) z5 (fun _ _ h => h) undef rfl
   | 24, ho =>
     cases ho
     have fg : aq.tmps.getD 33 undef = undef := z6 19 33 (hall ⟨19, .guard⟩ (by simp) rfl) rfl
     refine wpOp_offu rfl rfl rfl rfl fg ?_
     exact hJ2.put hS 24 38 rfl (by omega) z5 (fun _ _ h => h) undef rfl
   | 25, ho =>
     cases ho
     have fg : aq.tmps.getD 33 undef = undef := z6 19 33 (hall ⟨19, .guard⟩ (by simp) rfl) rfl
     refine wpOp_offu rfl rfl rfl rfl fg ?_
     exact hJ2.put hS 25 39 rfl (by omega) z5 (fun _ _ h => h) undef rfl
   | 26, ho =>
     cases ho
     have fg : aq.tmps.getD 33 undef = undef := z6 19 33 (hall ⟨19, .guard⟩ (by simp) rfl) rfl
     refine wpOp_offu rfl rfl rfl rfl fg ?_
     exact hJ2.put hS 26 40 rfl (by omega) z5 (fun _ _ h => h) undef rfl
   | 27, ho =>
     cases ho
     have fg : aq.tmps.getD 33 undef = undef := z6 19 33 (hall ⟨19, .guard⟩ (by simp) rfl) rfl
     refine wpOp_offu rfl rfl rfl rfl fg ?_
     exact hJ2.put hS 27 41 rfl (by omega) z5 (fun _ _ h => h) undef rfl
   | 28, ho =>
     cases ho
     have fg : aq.tmps.getD 33 undef = undef := z6 19 33 (hall ⟨19, .guard⟩ (by simp) rfl) rfl
     refine wpOp_offu rfl rfl rfl rfl fg ?_
     exact hJ2.put hS 28 42 rfl (by omega) z5 (fun _ _ h => h) undef rfl
   | 29, ho =>
     cases ho
     have fg : aq.tmps.getD 33 undef = undef := z6 19 33 (hall ⟨19, .guard⟩ (by simp) rfl) rfl
     refine wpOp_offu rfl rfl rfl rfl fg ?_
     exact hJ2.put hS 29 43 rfl (by omega) z5 (fun _ _ h => h) undef rfl
   | 30, ho =>
     cases ho
     have fg : aq.tmps.getD 33 undef = undef := z6 19 33 (hall ⟨19, .guard⟩ (by simp) rfl) rfl
     refine wpOp_offu rfl rfl rfl rfl fg ?_
     exact hJ2.put hS 30 44 rfl (by omega) z5 (fun _ _ h => h) undef rfl
   | 31, ho =>
     cases ho
     have fg : aq.tmps.getD 33 undef = undef := z6 19 33 (hall ⟨19, .guard⟩ (by simp) rfl) rfl
     refine wpOp_offu rfl rfl rfl rfl fg ?_
     exact hJ2.put hS 31 45 rfl (by omega) z5 (fun _ _ h => h) undef rfl
   | 32, ho =>
     cases ho
     have fg : aq.tmps.getD 33 undef = undef := z6 19 33 (hall ⟨19, .guard⟩ (by simp) rfl) rfl
     refine wpOp_offu rfl rfl rfl rfl fg ?_
     exact hJ2.put hS 32 46 rfl (by omega) z5 (fun _ _ h => h) undef rfl
   | 33, ho =>
     cases ho
     have fg : aq.tmps.getD 33 undef = undef := z6 19 33 (hall ⟨19, .guard⟩ (by simp) rfl) rfl
     refine wpOp_offu rfl rfl rfl rfl fg ?_
     exact hJ2.put hS 33 47 rfl (by omega) z5 (fun _ _ h => h) undef rfl
   | 34, ho =>
     cases ho
     have fg : aq.tmps.getD 33 undef = undef := z6 19 33 (hall ⟨19, .guard⟩ (by simp) rfl) rfl
     refine wpOp_offu rfl rfl rfl rfl fg ?_
     exact hJ2.put hS 34 48 rfl (by omega) z5 (fun _ _ h => h) undef rfl
   | 35, ho =>
     cases ho
     have fg : aq.tmps.getD 30 undef = .bool true := z6 16 30 (hall ⟨16, .guard⟩ (by simp) rfl) rfl
     refine wpOp_off rfl rfl rfl rfl fg ?_
     exact hJ2.put hS 35 49 rfl (by omega) z5 (fun _ _ h => h) undef rfl
   | 36, ho =>
     cases ho
     refine wpOp_of rfl rfl ?_
     have f16 : (aq.tmps.getD 30 undef) = .bool true := z6 16 30 (hall ⟨16, .data⟩ (by simp) rfl) rfl
     have f35 : (aq.tmps.getD 49 undef) = undef := z6 35 49 (hall ⟨35, .data⟩ (by simp) rfl) rfl
     have hK := fun (v : Value) (W2 : World) hW hT hv => hJ2.put hS 36 50 rfl (by omega) (W' := W2) hW hT v hv
     clear ho hall hl hQ
     generalize InvQ _ _ _ w0 a0 (lq.setIfInBounds 36 true) = K at hK ⊢
     clear hJ2 hS z1 z2 z3 z4 z6 z7
     go_simp
     exact hK _ _ z5 (fun _ _ h => h) rfl
   | iq + 37, ho => simp at ho
 · intro lq aq W hJ hr
   obtain ⟨z1, z2, z3, z4, z5, z6, z7⟩ := hJ
   have hl := listed_of hr [0, 1, 2, 3, 4, 5, 6, 7, 8, 9, 10, 11, 12, 13, 14, 15, 16, 17, 18, 19, 20, 21, 22, 23, 24, 25, 26, 27, 28, 29, 30, 31, 32, 33, 34, 35, 36] [] (by simp) (by kernel_rfl) (by rw [z1]; decide)
   exact hQ aq W z2 z3 (fun e he => z4 e (by simpa using he)) (z6 36 50 (hl 36 (by simp)) rfl) z5
def VevM_C (n cap A off c m mc : Nat) (eo : Option Addr) (x y z : Int) (_B : Nat) : Nat → Value → World → Prop
 | 0, v, _ => v = .slice (some ⟨A, off, none⟩) n cap
 | 1, v, _ => v = .int .i64 (c : Int)
 | 2, v, _ => v = .pointer (some ⟨A, off + c * 13, none⟩)
 | 3, v, _ => v = .pointer (some ⟨A, off + c * 13, none⟩)
 | 4, v, _ => v = PV x y z
 | 5, v, _ => v = .bool (ptB x y z)
 | 6, v, _ => v = .bool false
 | 7, v, _ => v = .bool false
 | 8, v, _ => v = .slice (some ⟨A, off, none⟩) n cap
 | 9, v, _ => v = .int .i64 (c : Int)
 | 10, v, _ => v = .pointer (some ⟨A, off + c * 13, none⟩)
 | 11, v, _ => v = .pointer (some ⟨A, off + c * 13 + 12, none⟩)
 | 12, v, _ => v = .slice eo m mc
 | 13, v, _ => v = .int .i64 (m : Int)
 | 14, v, _ => v = .bool false
 | 15, v, _ => v = .bool false
 | 16, v, _ => v = .bool false
 | 17, v, _ => v = .int .i64 (c : Int)
 | 18, v, _ => v = .bool false
 | 19, v, _ => v = .bool false
 | 20, v, _ => v = undef
 | 21, v, _ => v = undef
 | 22, v, _ => v = undef
 | 23, v, _ => v = undef
 | 24, v, _ => v = undef
 | 25, v, _ => v = undef
 | 26, v, _ => v = undef
 | 27, v, _ => v = undef
 | 28, v, _ => v = undef
 | 29, v, _ => v = undef
 | 30, v, _ => v = undef
 | 31, v, _ => v = undef
 | 32, v, _ => v = undef
 | 33, v, _ => v = undef
 | 34, v, _ => v = undef
 | 35, v, _ => v = .bool false
 | 36, v, _ => v = .bool false
 | _, _, _ => True
theorem VevM_C.mono {n cap A off c m mc : Nat} {eo : Option Addr} {x y z : Int} {B j : Nat} {v : Value} {W W2 : World} (_hB : Below W.heap.size W W2) (h : VevM_C n cap A off c m mc eo x y z B j v W) : VevM_C n cap A off c m mc eo x y z B j v W2 := by
 unfold VevM_C at *
 split <;> simp only at h <;> first | exact h | trivial
theorem evM_C {Q : Exit → Act → World → Prop} {n cap A off c m mc : Nat} {eo : Option Addr} {x y z : Int}  {w0 : World} {a0 : Act} {idq : Nat} {t0 t1 t2 t3 t4 t5 t6 t7 t8 t9 t10 t11 t12 t13 t14 t15 t16 t17 t18 t19 t20 t21 t22 t23 t24 t25 t26 t27 t28 t29 t30 t31 t32 t33 t34 t35 t36 : TypeId} {q0 q1 q2 q3 q4 q5 q6 q7 q8 q9 q10 q11 q12 q13 q14 q15 q16 q17 q18 q19 q20 q21 q22 q23 q24 q25 q26 q27 q28 q29 q30 q31 q32 q33 q34 q35 q36 : String}
   (hc : c < n) (hn : n ≤ 200) (ta : told x = true) (tb : told y = true) (tc : told z = true) (hp : ptB x y z = true) (hm : 1 ≤ m) (hmb : m ≤ 1048576) (hc0 : Hid (c = 0)) (h0 : a0.tmps[0]? = some (.slice (some ⟨A, off, none⟩) n cap)) (h3 : a0.tmps[3]? = some (.int .i64 (c : Int))) (k0 : w0.cell? ⟨A, off + c * 13, none⟩ = some (.int .u64 (ww3 x))) (l0 : (⟨A, off + c * 13, none⟩ : Addr).block < w0.heap.size) (k1 : w0.cell? ⟨A, off + c * 13 + 1, none⟩ = some (.int .u64 (ww2 x))) (l1 : (⟨A, off + c * 13 + 1, none⟩ : Addr).block < w0.heap.size) (k2 : w0.cell? ⟨A, off + c * 13 + 2, none⟩ = some (.int .u64 (ww1 x))) (l2 : (⟨A, off + c * 13 + 2, none⟩ : Addr).block < w0.heap.size) (k3 : w0.cell? ⟨A, off + c * 13 + 3, none⟩ = some (.int .u64 (ww0 x))) (l3 : (⟨A, off + c * 13 + 3, none⟩ : Addr).block < w0.heap.size) (k4 : w0.cell? ⟨A, off + c * 13 + 4, none⟩ = some (.int .u64 (ww3 y))) (l4 : (⟨A, off + c * 13 + 4, none⟩ : Addr).block < w0.heap.size) (k5 : w0.cell? ⟨A, off + c * 13 + 5, none⟩ = some (.int .u64 (ww2 y))) (l5 : (⟨A, off + c * 13 + 5, none⟩ : Addr).block < w0.heap.size) (k6 : w0.cell? ⟨A, off + c * 13 + 6, none⟩ = some (.int .u64 (ww1 y))) (l6 : (⟨A, off + c * 13 + 6, none⟩ : Addr).block < w0.heap.size) (k7 : w0.cell? ⟨A, off + c * 13 + 7, none⟩ = some (.int .u64 (ww0 y))) (l7 : (⟨A, off + c * 13 + 7, none⟩ : Addr).block < w0.heap.size) (k8 : w0.cell? ⟨A, off + c * 13 + 8, none⟩ = some (.int .u64 (ww3 z))) (l8 : (⟨A, off + c * 13 + 8, none⟩ : Addr).block < w0.heap.size) (k9 : w0.cell? ⟨A, off + c * 13 + 9, none⟩ = some (.int .u64 (ww2 z))) (l9 : (⟨A, off + c * 13 + 9, none⟩ : Addr).block < w0.heap.size) (k10 : w0.cell? ⟨A, off + c * 13 + 10, none⟩ = some (.int .u64 (ww1 z))) (l10 : (⟨A, off + c * 13 + 10, none⟩ : Addr).block < w0.heap.size) (k11 : w0.cell? ⟨A, off + c * 13 + 11, none⟩ = some (.int .u64 (ww0 z))) (l11 : (⟨A, off + c * 13 + 11, none⟩ : Addr).block < w0.heap.size) (k12 : w0.cell? ⟨A, off + c * 13 + 12, none⟩ = some (.slice eo m mc)) (l12 : (⟨A, off + c * 13 + 12, none⟩ : Addr).block < w0.heap.size) (hz : a0.tmps.size = 95)
   (hQ : ∀ aq W, aq.tmps.size = a0.tmps.size → aq.defers = a0.defers → (∀ e, e ∉ ([14, 15, 16, 17, 18, 19, 20, 21, 22, 23, 24, 25, 26, 27, 28, 29, 30, 31, 32, 33, 34, 35, 36, 37, 38, 39, 40, 41, 42, 43, 44, 45, 46, 47, 48, 49, 50] : List Nat) → aq.tmps[e]? = a0.tmps[e]?) → VevM_C n cap A off c m mc eo x y z w0.heap.size 36 (aq.tmps.getD 50 undef) W → Below w0.heap.size w0 W → Q .normal aq W) :
   (Code.region idq #[{ dst := some 14, op := Op.move (.tmp 0), type := t0, pos := q0, after := #[], guard := none },
   { dst := some 15, op := Op.move (.tmp 3), type := t1, pos := q1, after := #[], guard := none },
   { dst := some 16, op := Op.indexAddr 44 (.tmp 14) (.tmp 15), type := t2, pos := q2, after := #[⟨0, .data⟩, ⟨1, .data⟩], guard := none },
   { dst := some 17, op := Op.fieldAddr 81 (.tmp 16) 0, type := t3, pos := q3, after := #[⟨2, .data⟩], guard := none },
   { dst := some 18, op := Op.load 35 (.tmp 17), type := t4, pos := q4, after := #[⟨3, .data⟩], guard := none },
   { dst := some 19, op := Op.call { callee := Callee.value (Operand.func 23), args := #[.tmp 18], argTypes := #[35] }, type := t5, pos := q5, after := #[⟨4, .data⟩], guard := none },
   { dst := some 20, op := Op.unOp UnOp.not 4 (.tmp 19), type := t6, pos := q6, after := #[⟨5, .data⟩], guard := none },
   { dst := some 21, op := Op.move (.tmp 20), type := t7, pos := q7, after := #[⟨6, .data⟩, ⟨5, .chain⟩], guard := none },
   { dst := some 22, op := Op.move (.tmp 0), type := t8, pos := q8, after := #[⟨7, .guard⟩], guard := some (7, false) },
   { dst := some 23, op := Op.move (.tmp 3), type := t9, pos := q9, after := #[⟨7, .guard⟩], guard := some (7, false) },
   { dst := some 24, op := Op.indexAddr 44 (.tmp 22) (.tmp 23), type := t10, pos := q10, after := #[⟨8, .data⟩, ⟨9, .data⟩, ⟨7, .guard⟩], guard := some (7, false) },
   { dst := some 25, op := Op.fieldAddr 81 (.tmp 24) 1, type := t11, pos := q11, after := #[⟨10, .data⟩, ⟨7, .guard⟩], guard := some (7, false) },
   { dst := some 26, op := Op.load 29 (.tmp 25), type := t12, pos := q12, after := #[⟨11, .data⟩, ⟨7, .guard⟩], guard := some (7, false) },
   { dst := some 27, op := Op.call { callee := Callee.builtin Builtin.len, args := #[.tmp 26], argTypes := #[29] }, type := t13, pos := q13, after := #[⟨12, .data⟩, ⟨7, .guard⟩], guard := some (7, false) },
   { dst := some 28, op := Op.binOp BinOp.lss 3 (.tmp 27) (Operand.const (Value.int IntKind.i64 1)) 3, type := t14, pos := q14, after := #[⟨13, .data⟩, ⟨7, .guard⟩], guard := some (7, false) },
   { dst := some 29, op := Op.pick (.tmp 21) (Operand.const (Value.bool true)) (.tmp 28), type := t15, pos := q15, after := #[⟨7, .data⟩, ⟨14, .data⟩], guard := none },
   { dst := some 30, op := Op.move (.tmp 29), type := t16, pos := q16, after := #[⟨15, .data⟩, ⟨7, .chain⟩], guard := none },
   { dst := some 31, op := Op.move (.tmp 3), type := t17, pos := q17, after := #[⟨16, .guard⟩], guard := some (16, false) },
   { dst := some 32, op := Op.binOp BinOp.gtr 3 (.tmp 31) (Operand.const (Value.int IntKind.i64 0)) 3, type := t18, pos := q18, after := #[⟨17, .data⟩, ⟨16, .guard⟩], guard := some (16, false) },
   { dst := some 33, op := Op.move (.tmp 32), type := t19, pos := q19, after := #[⟨18, .data⟩, ⟨16, .chain⟩, ⟨16, .guard⟩], guard := some (16, false) },
   { dst := some 34, op := Op.move (.tmp 0), type := t20, pos := q20, after := #[⟨19, .guard⟩], guard := some (19, true) },
   { dst := some 35, op := Op.move (.tmp 3), type := t21, pos := q21, after := #[⟨19, .guard⟩], guard := some (19, true) },
   { dst := some 36, op := Op.binOp BinOp.sub 3 (.tmp 35) (Operand.const (Value.int IntKind.i64 1)) 3, type := t22, pos := q22, after := #[⟨21, .data⟩, ⟨19, .guard⟩], guard := some (19, true) },
   { dst := some 37, op := Op.indexAddr 44 (.tmp 34) (.tmp 36), type := t23, pos := q23, after := #[⟨20, .data⟩, ⟨22, .data⟩, ⟨19, .guard⟩], guard := some (19, true) },
   { dst := some 38, op := Op.fieldAddr 81 (.tmp 37) 0, type := t24, pos := q24, after := #[⟨23, .data⟩, ⟨19, .guard⟩], guard := some (19, true) },
   { dst := some 39, op := Op.load 35 (.tmp 38), type := t25, pos := q25, after := #[⟨24, .data⟩, ⟨19, .guard⟩], guard := some (19, true) },
   { dst := some 40, op := Op.call { callee := Callee.value (Operand.func 25), args := #[.tmp 39], argTypes := #[35] }, type := t26, pos := q26, after := #[⟨25, .data⟩, ⟨19, .chain⟩, ⟨19, .guard⟩], guard := some (19, true) },
   { dst := some 41, op := Op.move (.tmp 0), type := t27, pos := q27, after := #[⟨19, .guard⟩], guard := some (19, true) },
   { dst := some 42, op := Op.move (.tmp 3), type := t28, pos := q28, after := #[⟨19, .guard⟩], guard := some (19, true) },
   { dst := some 43, op := Op.indexAddr 44 (.tmp 41) (.tmp 42), type := t29, pos := q29, after := #[⟨27, .data⟩, ⟨28, .data⟩, ⟨19, .guard⟩], guard := some (19, true) },
   { dst := some 44, op := Op.fieldAddr 81 (.tmp 43) 0, type := t30, pos := q30, after := #[⟨29, .data⟩, ⟨19, .guard⟩], guard := some (19, true) },
   { dst := some 45, op := Op.load 35 (.tmp 44), type := t31, pos := q31, after := #[⟨30, .data⟩, ⟨19, .guard⟩], guard := some (19, true) },
   { dst := some 46, op := Op.call { callee := Callee.value (Operand.func 25), args := #[.tmp 45], argTypes := #[35] }, type := t32, pos := q32, after := #[⟨31, .data⟩, ⟨26, .chain⟩, ⟨19, .guard⟩], guard := some (19, true) },
   { dst := some 47, op := Op.call { callee := Callee.value (Operand.func 36), args := #[.tmp 40, .tmp 46], argTypes := #[58, 58] }, type := t33, pos := q33, after := #[⟨26, .data⟩, ⟨32, .data⟩, ⟨32, .chain⟩, ⟨19, .guard⟩], guard := some (19, true) },
   { dst := some 48, op := Op.binOp BinOp.geq 2 (.tmp 47) (Operand.const (Value.int IntKind.i64 0)) 2, type := t34, pos := q34, after := #[⟨33, .data⟩, ⟨19, .guard⟩], guard := some (19, true) },
   { dst := some 49, op := Op.pick (.tmp 33) (.tmp 48) (Operand.const (Value.bool false)), type := t35, pos := q35, after := #[⟨19, .data⟩, ⟨34, .data⟩, ⟨16, .guard⟩], guard := some (16, false) },
   { dst := some 50, op := Op.pick (.tmp 30) (Operand.const (Value.bool true)) (.tmp 49), type := t36, pos := q36, after := #[⟨16, .data⟩, ⟨35, .data⟩], guard := none }] true).wp Tryz.prog Q a0 w0 := by
 have hS : distS [some 14, some 15, some 16, some 17, some 18, some 19, some 20, some 21, some 22, some 23, some 24, some 25, some 26, some 27, some 28, some 29, some 30, some 31, some 32, some 33, some 34, some 35, some 36, some 37, some 38, some 39, some 40, some 41, some 42, some 43, some 44, some 45, some 46, some 47, some 48, some 49, some 50] = true := rfl
 refine wp_region_q (by kernel_rfl) w0.heap.size [some 14, some 15, some 16, some 17, some 18, some 19, some 20, some 21, some 22, some 23, some 24, some 25, some 26, some 27, some 28, some 29, some 30, some 31, some 32, some 33, some 34, some 35, some 36, some 37, some 38, some 39, some 40, some 41, some 42, some 43, some 44, some 45, some 46, some 47, some 48, some 49, some 50] (VevM_C n cap A off c m mc eo x y z w0.heap.size) rfl ?_ ?_
 · intro Q lq aq W iq oq hJ hl ho hall
   have hJ2 := hJ
   obtain ⟨z1, z2, z3, z4, z5, z6, z7⟩ := hJ
   have g0 : aq.tmps.getD 0 undef = .slice (some ⟨A, off, none⟩) n cap := by rw [Array.getD_eq_getD_getElem?, z4 0 (by decide), h0]; rfl
   have g3 : aq.tmps.getD 3 undef = .int .i64 (c : Int) := by rw [Array.getD_eq_getD_getElem?, z4 3 (by decide), h3]; rfl
   have c0 : W.cell? ⟨A, off + c * 13, none⟩ = some (.int .u64 (ww3 x)) := (z5.cell l0).trans k0
   have c1 : W.cell? ⟨A, off + c * 13 + 1, none⟩ = some (.int .u64 (ww2 x)) := (z5.cell l1).trans k1
   have c2 : W.cell? ⟨A, off + c * 13 + 2, none⟩ = some (.int .u64 (ww1 x)) := (z5.cell l2).trans k2
   have c3 : W.cell? ⟨A, off + c * 13 + 3, none⟩ = some (.int .u64 (ww0 x)) := (z5.cell l3).trans k3
   have c4 : W.cell? ⟨A, off + c * 13 + 4, none⟩ = some (.int .u64 (ww3 y)) := (z5.cell l4).trans k4
   have c5 : W.cell? ⟨A, off + c * 13 + 5, none⟩ = some (.int .u64 (ww2 y)) := (z5.cell l5).trans k5
   have c6 : W.cell? ⟨A, off + c * 13 + 6, none⟩ = some (.int .u64 (ww1 y)) := (z5.cell l6).trans k6
   have c7 : W.cell? ⟨A, off + c * 13 + 7, none⟩ = some (.int .u64 (ww0 y)) := (z5.cell l7).trans k7
   have c8 : W.cell? ⟨A, off + c * 13 + 8, none⟩ = some (.int .u64 (ww3 z)) := (z5.cell l8).trans k8
   have c9 : W.cell? ⟨A, off + c * 13 + 9, none⟩ = some (.int .u64 (ww2 z)) := (z5.cell l9).trans k9
   have c10 : W.cell? ⟨A, off + c * 13 + 10, none⟩ = some (.int .u64 (ww1 z)) := (z5.cell l10).trans k10
   have c11 : W.cell? ⟨A, off + c * 13 + 11, none⟩ = some (.int .u64 (ww0 z)) := (z5.cell l11).trans k11
   have c12 : W.cell? ⟨A, off + c * 13 + 12, none⟩ = some (.slice eo m mc) := (z5.cell l12).trans k12
   match iq, ho with
   | 0, ho =>
     cases ho
     refine wpOp_of rfl rfl ?_
     have hK := fun (v : Value) (W2 : World) hW hT hv => hJ2.put hS 0 14 rfl (by omega) (W' := W2) hW hT v hv
     clear ho hall hl hQ
     generalize InvQ _ _ _ w0 a0 (lq.setIfInBounds 0 true) = K at hK ⊢
     clear hJ2 hS z1 z2 z3 z4 z6 z7
     go_simp
     exact hK _ _ z5 (fun _ _ h => h) rfl
   | 1, ho =>
     cases ho
     refine wpOp_of rfl rfl ?_
     have hK := fun (v : Value) (W2 : World) hW hT hv => hJ2.put hS 1 15 rfl (by omega) (W' := W2) hW hT v hv
     clear ho hall hl hQ
     generalize InvQ _ _ _ w0 a0 (lq.setIfInBounds 1 true) = K at hK ⊢
     clear hJ2 hS z1 z2 z3 z4 z6 z7
     go_simp
     exact hK _ _ z5 (fun _ _ h => h) rfl
   | 2, ho =>
     cases ho
     refine wpOp_of rfl rfl ?_
     have f0 : (aq.tmps.getD 14 undef) = .slice (some ⟨A, off, none⟩) n cap := z6 0 14 (hall ⟨0, .data⟩ (by simp) rfl) rfl
     have f1 : (aq.tmps.getD 15 undef) = .int .i64 (c : Int) := z6 1 15 (hall ⟨1, .data⟩ (by simp) rfl) rfl
     have hcI : (c : Int) < n := by omega
     have hnI : (n : Int) ≤ 200 := by omega
     have hK := fun (v : Value) (W2 : World) hW hT hv => hJ2.put hS 2 16 rfl (by omega) (W' := W2) hW hT v hv
     clear ho hall hl hQ
     generalize InvQ _ _ _ w0 a0 (lq.setIfInBounds 2 true) = K at hK ⊢
     clear hJ2 hS z1 z2 z3 z4 z6 z7
     go_simp
     exact hK _ _ z5 (fun _ _ h => h) rfl
   | 3, ho =>
     cases ho
     refine wpOp_of rfl rfl ?_
     have f2 : (aq.tmps.getD 16 undef) = .pointer (some ⟨A, off + c * 13, none⟩) := z6 2 16 (hall ⟨2, .data⟩ (by simp) rfl) rfl
     have hK := fun (v : Value) (W2 : World) hW hT hv => hJ2.put hS 3 17 rfl (by omega) (W' := W2) hW hT v hv
     clear ho hall hl hQ
     generalize InvQ _ _ _ w0 a0 (lq.setIfInBounds 3 true) = K at hK ⊢
     clear hJ2 hS z1 z2 z3 z4 z6 z7
     go_simp
     exact hK _ _ z5 (fun _ _ h => h) rfl
   | 4, ho =>
     cases ho
     refine wpOp_of rfl rfl ?_
     have f3 : (aq.tmps.getD 17 undef) = .pointer (some ⟨A, off + c * 13, none⟩) := z6 3 17 (hall ⟨3, .data⟩ (by simp) rfl) rfl
     have hK := fun (v : Value) (W2 : World) hW hT hv => hJ2.put hS 4 18 rfl (by omega) (W' := W2) hW hT v hv
     clear ho hall hl hQ
     generalize InvQ _ _ _ w0 a0 (lq.setIfInBounds 4 true) = K at hK ⊢
     clear hJ2 hS z1 z2 z3 z4 z6 z7
     go_simp
     exact hK _ _ z5 (fun _ _ h => h) rfl
   | 5, ho =>
     cases ho
     refine wpOp_of rfl rfl ?_
     have f4 : (aq.tmps.getD 18 undef) = PV x y z := z6 4 18 (hall ⟨4, .data⟩ (by simp) rfl) rfl
     have hK := fun (v : Value) (W2 : World) hW hT hv => hJ2.put hS 5 19 rfl (by omega) (W' := W2) hW hT v hv
     clear ho hall hl hQ
     generalize InvQ _ _ _ w0 a0 (lq.setIfInBounds 5 true) = K at hK ⊢
     clear hJ2 hS z1 z2 z3 z4 z6 z7
     go_simp
     refine (specPointOk_det x y z ta tb tc W).mono ?_
     rintro e v1 ⟨rfl, hBv⟩
     exact hK _ _ (z5.trans (hBv.mono z5.size)) (fun j v h => h.mono hBv) rfl
   | 6, ho =>
     cases ho
     refine wpOp_of rfl rfl ?_
     have f5 : (aq.tmps.getD 19 undef) = .bool (ptB x y z) := z6 5 19 (hall ⟨5, .data⟩ (by simp) rfl) rfl
     rw [hp] at f5
     have hK := fun (v : Value) (W2 : World) hW hT hv => hJ2.put hS 6 20 rfl (by omega) (W' := W2) hW hT v hv
     clear ho hall hl hQ
     generalize InvQ _ _ _ w0 a0 (lq.setIfInBounds 6 true) = K at hK ⊢
     clear hJ2 hS z1 z2 z3 z4 z6 z7
     go_simp
     exact hK _ _ z5 (fun _ _ h => h) rfl
   | 7, ho =>
     cases ho
     refine wpOp_of rfl rfl ?_
     have f6 : (aq.tmps.getD 20 undef) = .bool false := z6 6 20 (hall ⟨6, .data⟩ (by simp) rfl) rfl
     have hK := fun (v : Value) (W2 : World) hW hT hv => hJ2.put hS 7 21 rfl (by omega) (W' := W2) hW hT v hv
     clear ho hall hl hQ
     generalize InvQ _ _ _ w0 a0 (lq.setIfInBounds 7 true) = K at hK ⊢
     clear hJ2 hS z1 z2 z3 z4 z6 z7
     go_simp
     exact hK _ _ z5 (fun _ _ h => h) rfl
   | 8, ho =>
     cases ho
     have fg : aq.tmps.getD 21 undef = .bool false := z6 7 21 (hall ⟨7, .guard⟩ (by simp) rfl) rfl
     refine wpOp_on rfl rfl rfl rfl fg ?_
     have hK := fun (v : Value) (W2 : World) hW hT hv => hJ2.put hS 8 22 rfl (by omega) (W' := W2) hW hT v hv
     clear ho hall hl hQ
     generalize InvQ _ _ _ w0 a0 (lq.setIfInBounds 8 true) = K at hK ⊢
     clear hJ2 hS z1 z2 z3 z4 z6 z7
     go_simp
     exact hK _ _ z5 (fun _ _ h => h) rfl
   | 9, ho =>
     cases ho
     have fg : aq.tmps.getD 21 undef = .bool false := z6 7 21 (hall ⟨7, .guard⟩ (by simp) rfl) rfl
     refine wpOp_on rfl rfl rfl rfl fg ?_
     have hK := fun (v : Value) (W2 : World) hW hT hv => hJ2.put hS 9 23 rfl (by omega) (W' := W2) hW hT v hv
     clear ho hall hl hQ
     generalize InvQ _ _ _ w0 a0 (lq.setIfInBounds 9 true) = K at hK ⊢
     clear hJ2 hS z1 z2 z3 z4 z6 z7
     go_simp
     exact hK _ _ z5 (fun _ _ h => h) rfl
   | 10, ho =>
     cases ho
     have fg : aq.tmps.getD 21 undef = .bool false := z6 7 21 (hall ⟨7, .guard⟩ (by simp) rfl) rfl
     refine wpOp_on rfl rfl rfl rfl fg ?_
     have f8 : (aq.tmps.getD 22 undef) = .slice (some ⟨A, off, none⟩) n cap := z6 8 22 (hall ⟨8, .data⟩ (by simp) rfl) rfl
     have f9 : (aq.tmps.getD 23 undef) = .int .i64 (c : Int) := z6 9 23 (hall ⟨9, .data⟩ (by simp) rfl) rfl
     have hcI : (c : Int) < n := by omega
     have hnI : (n : Int) ≤ 200 := by omega
     have hK := fun (v : Value) (W2 : World) hW hT hv => hJ2.put hS 10 24 rfl (by omega) (W' := W2) hW hT v hv
     clear ho hall hl hQ
     generalize InvQ _ _ _ w0 a0 (lq.setIfInBounds 10 true) = K at hK ⊢
     clear hJ2 hS z1 z2 z3 z4 z6 z7
     go_simp
     exact hK _ _ z5 (fun _ _ h => h) rfl
   | 11, ho =>
     cases ho
     have fg : aq.tmps.getD 21 undef = .bool false := z6 7 21 (hall ⟨7, .guard⟩ (by simp) rfl) rfl
     refine wpOp_on rfl rfl rfl rfl fg ?_
     have f10 : (aq.tmps.getD 24 undef) = .pointer (some ⟨A, off + c * 13, none⟩) := z6 10 24 (hall ⟨10, .data⟩ (by simp) rfl) rfl
     have hK := fun (v : Value) (W2 : World) hW hT hv => hJ2.put hS 11 25 rfl (by omega) (W' := W2) hW hT v hv
     clear ho hall hl hQ
     generalize InvQ _ _ _ w0 a0 (lq.setIfInBounds 11 true) = K at hK ⊢
     clear hJ2 hS z1 z2 z3 z4 z6 z7
     go_simp
     exact hK _ _ z5 (fun _ _ h => h) rfl
   | 12, ho =>
     cases ho
     have fg : aq.tmps.getD 21 undef = .bool false := z6 7 21 (hall ⟨7, .guard⟩ (by simp) rfl) rfl
     refine wpOp_on rfl rfl rfl rfl fg ?_
     have f11 : (aq.tmps.getD 25 undef) = .pointer (some ⟨A, off + c * 13 + 12, none⟩) := z6 11 25 (hall ⟨11, .data⟩ (by simp) rfl) rfl
     have hK := fun (v : Value) (W2 : World) hW hT hv => hJ2.put hS 12 26 rfl (by omega) (W' := W2) hW hT v hv
     clear ho hall hl hQ
     generalize InvQ _ _ _ w0 a0 (lq.setIfInBounds 12 true) = K at hK ⊢
     clear hJ2 hS z1 z2 z3 z4 z6 z7
     go_simp
     exact hK _ _ z5 (fun _ _ h => h) rfl
   | 13, ho =>
     cases ho
     have fg : aq.tmps.getD 21 undef = .bool false := z6 7 21 (hall ⟨7, .guard⟩ (by simp) rfl) rfl
     refine wpOp_on rfl rfl rfl rfl fg ?_
     have f12 : (aq.tmps.getD 26 undef) = .slice eo m mc := z6 12 26 (hall ⟨12, .data⟩ (by simp) rfl) rfl
     have hK := fun (v : Value) (W2 : World) hW hT hv => hJ2.put hS 13 27 rfl (by omega) (W' := W2) hW hT v hv
     clear ho hall hl hQ
     generalize InvQ _ _ _ w0 a0 (lq.setIfInBounds 13 true) = K at hK ⊢
     clear hJ2 hS z1 z2 z3 z4 z6 z7
     go_simp
     exact hK _ _ z5 (fun _ _ h => h) rfl
   | 14, ho =>
     cases ho
     have fg : aq.tmps.getD 21 undef = .bool false := z6 7 21 (hall ⟨7, .guard⟩ (by simp) rfl) rfl
     refine wpOp_on rfl rfl rfl rfl fg ?_
     have f13 : (aq.tmps.getD 27 undef) = .int .i64 (m : Int) := z6 13 27 (hall ⟨13, .data⟩ (by simp) rfl) rfl
     have hgt : (1 : Int) ≤ m := by omega
     have hK := fun (v : Value) (W2 : World) hW hT hv => hJ2.put hS 14 28 rfl (by omega) (W' := W2) hW hT v hv
     clear ho hall hl hQ
     generalize InvQ _ _ _ w0 a0 (lq.setIfInBounds 14 true) = K at hK ⊢
     clear hJ2 hS z1 z2 z3 z4 z6 z7
     go_simp
     exact hK _ _ z5 (fun _ _ h => h) (by show _ = _; exact congrArg Value.bool (decide_eq_false (by omega)))
   | 15, ho =>
     cases ho
     refine wpOp_of rfl rfl ?_
     have f7 : (aq.tmps.getD 21 undef) = .bool false := z6 7 21 (hall ⟨7, .data⟩ (by simp) rfl) rfl
     have f14 : (aq.tmps.getD 28 undef) = .bool false := z6 14 28 (hall ⟨14, .data⟩ (by simp) rfl) rfl
     have hK := fun (v : Value) (W2 : World) hW hT hv => hJ2.put hS 15 29 rfl (by omega) (W' := W2) hW hT v hv
     clear ho hall hl hQ
     generalize InvQ _ _ _ w0 a0 (lq.setIfInBounds 15 true) = K at hK ⊢
     clear hJ2 hS z1 z2 z3 z4 z6 z7
     go_simp
     exact hK _ _ z5 (fun _ _ h => h) rfl
   | 16, ho =>
     cases ho
     refine wpOp_of rfl rfl ?_
     have f15 : (aq.tmps.getD 29 undef) = .bool false := z6 15 29 (hall ⟨15, .data⟩ (by simp) rfl) rfl
     have hK := fun (v : Value) (W2 : World) hW hT hv => hJ2.put hS 16 30 rfl (by omega) (W' := W2) hW hT v hv
     clear ho hall hl hQ
     generalize InvQ _ _ _ w0 a0 (lq.setIfInBounds 16 true) = K at hK ⊢
     clear hJ2 hS z1 z2 z3 z4 z6 z7
     go_simp
     exact hK _ _ z5 (fun _ _ h => h) rfl
   | 17, ho =>
     cases ho
     have fg : aq.tmps.getD 30 undef = .bool false := z6 16 30 (hall ⟨16, .guard⟩ (by simp) rfl) rfl
     refine wpOp_on rfl rfl rfl rfl fg ?_
     have hK := fun (v : Value) (W2 : World) hW hT hv => hJ2.put hS 17 31 rfl (by omega) (W' := W2) hW hT v hv
     clear ho hall hl hQ
     generalize InvQ _ _ _ w0 a0 (lq.setIfInBounds 17 true) = K at hK ⊢
     clear hJ2 hS z1 z2 z3 z4 z6 z7
     go_simp
     exact hK _ _ z5 (fun _ _ h => h) rfl
   | 18, ho =>
     cases ho
     have fg : aq.tmps.getD 30 undef = .bool false := z6 16 30 (hall ⟨16, .guard⟩ (by simp) rfl) rfl
     refine wpOp_on rfl rfl rfl rfl fg ?_
     have f17 : (aq.tmps.getD 31 undef) = .int .i64 (c : Int) := z6 17 31 (hall ⟨17, .data⟩ (by simp) rfl) rfl
     have hgt : (c : Int) ≤ 0 := by have ho := hc0.out; omega
     have hK := fun (v : Value) (W2 : World) hW hT hv => hJ2.put hS 18 32 rfl (by omega) (W' := W2) hW hT v hv
     clear ho hall hl hQ
     generalize InvQ _ _ _ w0 a0 (lq.setIfInBounds 18 true) = K at hK ⊢
     clear hJ2 hS z1 z2 z3 z4 z6 z7
     go_simp
     exact hK _ _ z5 (fun _ _ h => h) (by show _ = _; exact congrArg Value.bool (decide_eq_false (by omega)))
   | 19, ho =>
     cases ho
     have fg : aq.tmps.getD 30 undef = .bool false := z6 16 30 (hall ⟨16, .guard⟩ (by simp) rfl) rfl
     refine wpOp_on rfl rfl rfl rfl fg ?_
     have f18 : (aq.tmps.getD 32 undef) = .bool false := z6 18 32 (hall ⟨18, .data⟩ (by simp) rfl) rfl
     have hK := fun (v : Value) (W2 : World) hW hT hv => hJ2.put hS 19 33 rfl (by omega) (W' := W2) hW hT v hv
     clear ho hall hl hQ
     generalize InvQ _ _ _ w0 a0 (lq.setIfInBounds 19 true) = K at hK ⊢
     clear hJ2 hS z1 z2 z3 z4 z6 z7
     go_simp
     exact hK _ _ z5 (fun _ _ h => h) rfl
   | 20, ho =>
     cases ho
     have fg : aq.tmps.getD 33 undef = .bool false := z6 19 33 (hall ⟨19, .guard⟩ (by simp) rfl) rfl
     refine wpOp_off rfl rfl rfl rfl fg ?_
     exact hJ2.put hS 20 34 rfl (by omega) z5 (fun _ _ h => h) undef rfl
   | 21, ho =>
     cases ho
     have fg : aq.tmps.getD 33 undef = .bool false := z6 19 33 (hall ⟨19, .guard⟩ (by simp) rfl) rfl
     refine wpOp_off rfl rfl rfl rfl fg ?_
     exact hJ2.put hS 21 35 rfl (by omega) z5 (fun _ _ h => h) undef rfl
   | 22, ho =>
     cases ho
     have fg : aq.tmps.getD 33 undef = .bool false := z6 19 33 (hall ⟨19, .guard⟩ (by simp) rfl) rfl
     refine wpOp_off rfl rfl rfl rfl fg ?_
     exact hJ2.put hS 22 36 rfl (by omega) z5 (fun _ _ h => h) undef rfl
   | 23, ho =>
     cases ho
     have fg : aq.tmps.getD 33 undef = .bool false := z6 19 33 (hall ⟨19, .guard⟩ (by simp) rfl) rfl
     refine wpOp_off rfl rfl rfl rfl fg ?_
     exact hJ2.put hS 23 37 rfl (by omega) z5 (fun _ _ h => h) undef rfl
   | 24, ho =>
     cases ho
     have fg : aq.tmps.getD 33 undef = .bool false := z6 19 33 (hall ⟨19, .guard⟩ (by simp) rfl) rfl
     refine wpOp_off rfl rfl rfl rfl fg ?_
     exact hJ2.put hS 24 38 rfl (by omega) z5 (fun _ _ h => h) undef rfl
   | 25, ho =>
     cases ho
     have fg : aq.tmps.getD 33 undef = .bool false := z6 19 33 (hall ⟨19, .guard⟩ (by simp) rfl) rfl
     refine wpOp_off rfl rfl rfl rfl fg ?_
     exact hJ2.put hS 25 39 rfl (by omega) z5 (fun _ _ h => h) undef rfl
   | 26, ho =>
     cases ho
     have fg : aq.tmps.getD 33 undef = .bool false := z6 19 33 (hall ⟨19, .guard⟩ (by simp) rfl) rfl
     refine wpOp_off rfl rfl rfl rfl fg ?_
     exact hJ2.put hS 26 40 rfl (by omega) z5 (fun _ _ h => h) undef rfl
   | 27, ho =>
     cases ho
     have fg : aq.tmps.getD 33 undef = .bool false := z6 19 33 (hall ⟨19, .guard⟩ (by simp) rfl) rfl
     refine wpOp_off rfl rfl rfl rfl fg ?_
     exact hJ2.put hS 27 41 rfl (by omega) z5 (fun _ _ h => h) undef rfl
   | 28, ho =>
     cases ho
     have fg : aq.tmps.getD 33 undef = .bool false := z6 19 33 (hall ⟨19, .guard⟩ (by simp) rfl) rfl
     refine wpOp_off rfl rfl rfl rfl fg ?_
     exact hJ2.put hS 28 42 rfl (by omega) z5 (fun _ _ h => h) undef rfl
   | 29, ho =>
     cases ho
     have fg : aq.tmps.getD 33 undef = .bool false := z6 19 33 (hall ⟨19, .guard⟩ (by simp) rfl) rfl
     refine wpOp_off rfl rfl rfl rfl fg ?_
     exact hJ2.put hS 29 43 rfl (by omega) z5 (fun _ _ h => h) undef rfl
   | 30, ho =>
     cases ho
     have fg : aq.tmps.getD 33 undef = .bool false := z6 19 33 (hall ⟨19, .guard⟩ (by simp) rfl) rfl
     refine wpOp_off rfl rfl rfl rfl fg ?_
     exact hJ2.put hS 30 44 rfl (by omega) z5 (fun _ _ h => h) undef rfl
   | 31, ho =>
     cases ho
     have fg : aq.tmps.getD 33 undef = .bool false := z6 19 33 (hall ⟨19, .guard⟩ (by simp) rfl) rfl
     refine wpOp_off rfl rfl rfl rfl fg ?_
     exact hJ2.put hS 31 45 rfl (by omega) z5 (fun _ _ h => h) undef rfl
   | 32, ho =>
     cases ho
     have fg : aq.tmps.getD 33 undef = .bool false := z6 19 33 (hall ⟨19, .guard⟩ (by simp) rfl) rfl
     refine wpOp_off rfl rfl rfl rfl fg ?_
     exact hJ2.put hS 32 46 rfl (by omega) z5 (fun _ _ h => h) undef rfl
   | 33, ho =>
     cases ho
     have fg : aq.tmps.getD 33 undef = .bool false := z6 19 33 (hall ⟨19, .guard⟩ (by simp) rfl) rfl
     refine wpOp_off rfl rfl rfl rfl fg ?_
     exact hJ2.put hS 33 47 rfl (by omega) z5 (fun _ _ h => h) undef rfl
   | 34, ho =>
     cases ho
     have fg : aq.tmps.getD 33 undef = .bool false := z6 19 33 (hall ⟨19, .guard⟩ (by simp) rfl) rfl
     refine wpOp_off rfl rfl rfl rfl fg ?_
     exact hJ2.put hS 34 48 rfl (by omega) z5 (fun _ _ h => h) undef rfl
   | 35, ho =>
     cases ho
     have fg : aq.tmps.getD 30 undef = .bool false := z6 16 30 (hall ⟨16, .guard⟩ (by simp) rfl) rfl
     refine wpOp_on rfl rfl rfl rfl fg ?_
     have f19 : (aq.tmps.getD 33 undef) = .bool false := z6 19 33 (hall ⟨19, .data⟩ (by simp) rfl) rfl
     have f34 : (aq.tmps.getD 48 undef) = undef := z6 34 48 (hall ⟨34, .data⟩ (by simp) rfl) rfl
     have hK := fun (v : Value) (W2 : World) hW hT hv => hJ2.put hS 35 49 rfl (by omega) (W' := W2) hW hT v hv
     clear ho hall hl hQ
     generalize InvQ _ _ _ w0 a0 (lq.setIfInBounds 35 true) = K at hK ⊢
     clear hJ2 hS z1 z2 z3 z4 z6 z7
     go_simp
     exact hK _ _ z5 (fun _ _ h => h) rfl
   | 36, ho =>
     cases ho
     refine wpOp_of rfl rfl ?_
     have f16 : (aq.tmps.getD 30 undef) = .bool false := z6 16 30 (hall ⟨16, .data⟩ (by simp) rfl) rfl
     have f35 : (aq.tmps.getD 49 undef) = .bool false := z6 35 49 (hall ⟨35, .data⟩ (by simp) rfl) rfl
     have hK := fun (v : Value) (W2 : World) hW hT hv => hJ2.put hS 36 50 rfl (by omega) (W' := W2) hW hT v hv
     clear ho hall hl hQ
     generalize InvQ _ _ _ w0 a0 (lq.setIfInBounds 36 true) = K at hK ⊢
     clear hJ2 hS z1 z2 z3 z4 z6 z7
     go_simp
     exact hK _ _ z5 (fun _ _ h => h) rfl
   | iq + 37, ho => simp at ho
 · intro lq aq W hJ hr
   obtain ⟨z1, z2, z3, z4, z5, z6, z7⟩ := hJ
   have hl := listed_of hr [0, 1, 2, 3, 4, 5, 6, 7, 8, 9, 10, 11, 12, 13, 14, 15, 16, 17, 18, 19, 20, 21, 22, 23, 24, 25, 26, 27, 28, 29, 30, 31, 32, 33, 34, 35, 36] [] (by simp) (by kernel_rfl) (by rw [z1]; decide)
   exact hQ aq W z2 z3 (fun e he => z4 e (by simpa using he)) (z6 36 50 (hl 36 (by simp)) rfl) z5
def VevM_D (n cap A off c d m mc : Nat) (eo : Option Addr) (x y z u vv t : Int) (_B : Nat) : Nat → Value → World → Prop
 | 0, v, _ => v = .slice (some ⟨A, off, none⟩) n cap
 | 1, v, _ => v = .int .i64 (c : Int)
 | 2, v, _ => v = .pointer (some ⟨A, off + c * 13, none⟩)
 | 3, v, _ => v = .pointer (some ⟨A, off + c * 13, none⟩)
 | 4, v, _ => v = PV x y z
 | 5, v, _ => v = .bool (ptB x y z)
 | 6, v, _ => v = .bool false
 | 7, v, _ => v = .bool false
 | 8, v, _ => v = .slice (some ⟨A, off, none⟩) n cap
 | 9, v, _ => v = .int .i64 (c : Int)
 | 10, v, _ => v = .pointer (some ⟨A, off + c * 13, none⟩)
 | 11, v, _ => v = .pointer (some ⟨A, off + c * 13 + 12, none⟩)
 | 12, v, _ => v = .slice eo m mc
 | 13, v, _ => v = .int .i64 (m : Int)
 | 14, v, _ => v = .bool false
 | 15, v, _ => v = .bool false
 | 16, v, _ => v = .bool false
 | 17, v, _ => v = .int .i64 (c : Int)
 | 18, v, _ => v = .bool true
 | 19, v, _ => v = .bool true
 | 20, v, _ => v = .slice (some ⟨A, off, none⟩) n cap
 | 21, v, _ => v = .int .i64 (c : Int)
 | 22, v, _ => v = .int .i64 (d : Int)
 | 23, v, _ => v = .pointer (some ⟨A, off + d * 13, none⟩)
 | 24, v, _ => v = .pointer (some ⟨A, off + d * 13, none⟩)
 | 25, v, _ => v = PV u vv t
 | 26, v, W => L3E u vv t v W
 | 27, v, _ => v = .slice (some ⟨A, off, none⟩) n cap
 | 28, v, _ => v = .int .i64 (c : Int)
 | 29, v, _ => v = .pointer (some ⟨A, off + c * 13, none⟩)
 | 30, v, _ => v = .pointer (some ⟨A, off + c * 13, none⟩)
 | 31, v, _ => v = PV x y z
 | 32, v, W => L3E x y z v W
 | 33, v, _ => v = .int .i64 (ordI u vv t x y z)
 | 34, v, _ => v = .bool (decide (0 ≤ ordI u vv t x y z))
 | 35, v, _ => v = .bool (decide (0 ≤ ordI u vv t x y z))
 | 36, v, _ => v = .bool (decide (0 ≤ ordI u vv t x y z))
 | _, _, _ => True
theorem VevM_D.mono {n cap A off c d m mc : Nat} {eo : Option Addr} {x y z u vv t : Int} {B j : Nat} {v : Value} {W W2 : World} (hB : Below W.heap.size W W2) (h : VevM_D n cap A off c d m mc eo x y z u vv t B j v W) : VevM_D n cap A off c d m mc eo x y z u vv t B j v W2 := by
 unfold VevM_D at *
 split <;> simp only at h <;> first | exact h | exact h.step hB | trivial
theorem evM_D {Q : Exit → Act → World → Prop} {n cap A off c d m mc : Nat} {eo : Option Addr} {x y z u vv t : Int}  {w0 : World} {a0 : Act} {idq : Nat} {t0 t1 t2 t3 t4 t5 t6 t7 t8 t9 t10 t11 t12 t13 t14 t15 t16 t17 t18 t19 t20 t21 t22 t23 t24 t25 t26 t27 t28 t29 t30 t31 t32 t33 t34 t35 t36 : TypeId} {q0 q1 q2 q3 q4 q5 q6 q7 q8 q9 q10 q11 q12 q13 q14 q15 q16 q17 q18 q19 q20 q21 q22 q23 q24 q25 q26 q27 q28 q29 q30 q31 q32 q33 q34 q35 q36 : String}
   (hc : c < n) (hn : n ≤ 200) (ta : told x = true) (tb : told y = true) (tc : told z = true) (ua : told u = true) (ub : told vv = true) (uc : told t = true) (hp : ptB x y z = true) (hm : 1 ≤ m) (hmb : m ≤ 1048576) (hcd : Hid (c = d + 1)) (h0 : a0.tmps[0]? = some (.slice (some ⟨A, off, none⟩) n cap)) (h3 : a0.tmps[3]? = some (.int .i64 (c : Int))) (k0 : w0.cell? ⟨A, off + c * 13, none⟩ = some (.int .u64 (ww3 x))) (l0 : (⟨A, off + c * 13, none⟩ : Addr).block < w0.heap.size) (k1 : w0.cell? ⟨A, off + c * 13 + 1, none⟩ = some (.int .u64 (ww2 x))) (l1 : (⟨A, off + c * 13 + 1, none⟩ : Addr).block < w0.heap.size) (k2 : w0.cell? ⟨A, off + c * 13 + 2, none⟩ = some (.int .u64 (ww1 x))) (l2 : (⟨A, off + c * 13 + 2, none⟩ : Addr).block < w0.heap.size) (k3 : w0.cell? ⟨A, off + c * 13 + 3, none⟩ = some (.int .u64 (ww0 x))) (l3 : (⟨A, off + c * 13 + 3, none⟩ : Addr).block < w0.heap.size) (k4 : w0.cell? ⟨A, off + c * 13 + 4, none⟩ = some (.int .u64 (ww3 y))) (l4 : (⟨A, off + c * 13 + 4, none⟩ : Addr).block < w0.heap.size) (k5 : w0.cell? ⟨A, off + c * 13 + 5, none⟩ = some (.int .u64 (ww2 y))) (l5 : (⟨A, off + c * 13 + 5, none⟩ : Addr).block < w0.heap.size) (k6 : w0.cell? ⟨A, off + c * 13 + 6, none⟩ = some (.int .u64 (ww1 y))) (l6 : (⟨A, off + c * 13 + 6, none⟩ : Addr).block < w0.heap.size) (k7 : w0.cell? ⟨A, off + c * 13 + 7, none⟩ = some (.int .u64 (ww0 y))) (l7 : (⟨A, off + c * 13 + 7, none⟩ : Addr).block < w0.heap.size) (k8 : w0.cell? ⟨A, off + c * 13 + 8, none⟩ = some (.int .u64 (ww3 z))) (l8 : (⟨A, off + c * 13 + 8, none⟩ : Addr).block < w0.heap.size) (k9 : w0.cell? ⟨A, off + c * 13 + 9, none⟩ = some (.int .u64 (ww2 z))) (l9 : (⟨A, off + c * 13 + 9, none⟩ : Addr).block < w0.heap.size) (k10 : w0.cell? ⟨A, off + c * 13 + 10, none⟩ = some (.int .u64 (ww1 z))) (l10 : (⟨A, off + c * 13 + 10, none⟩ : Addr).block < w0.heap.size) (k11 : w0.cell? ⟨A, off + c * 13 + 11, none⟩ = some (.int .u64 (ww0 z))) (l11 : (⟨A, off + c * 13 + 11, none⟩ : Addr).block < w0.heap.size) (k12 : w0.cell? ⟨A, off + c * 13 + 12, none⟩ = some (.slice eo m mc)) (l12 : (⟨A, off + c * 13 + 12, none⟩ : Addr).block < w0.heap.size) (k13 : w0.cell? ⟨A, off + d * 13, none⟩ = some (.int .u64 (ww3 u))) (l13 : (⟨A, off + d * 13, none⟩ : Addr).block < w0.heap.size) (k14 : w0.cell? ⟨A, off + d * 13 + 1, none⟩ = some (.int .u64 (ww2 u))) (l14 : (⟨A, off + d * 13 + 1, none⟩ : Addr).block < w0.heap.size) (k15 : w0.cell? ⟨A, off + d * 13 + 2, none⟩ = some (.int .u64 (ww1 u))) (l15 : (⟨A, off + d * 13 + 2, none⟩ : Addr).block < w0.heap.size) (k16 : w0.cell? ⟨A, off + d * 13 + 3, none⟩ = some (.int .u64 (ww0 u))) (l16 : (⟨A, off + d * 13 + 3, none⟩ : Addr).block < w0.heap.size) (k17 : w0.cell? ⟨A, off + d * 13 + 4, none⟩ = some (.int .u64 (ww3 vv))) (l17 : (⟨A, off + d * 13 + 4, none⟩ : Addr).block < w0.heap.size) (k18 : w0.cell? ⟨A, off + d * 13 + 5, none⟩ = some (.int .u64 (ww2 vv))) (l18 : (⟨A, off + d * 13 + 5, none⟩ : Addr).block < w0.heap.size) (k19 : w0.cell? ⟨A, off + d * 13 + 6, none⟩ = some (.int .u64 (ww1 vv))) (l19 : (⟨A, off + d * 13 + 6, none⟩ : Addr).block < w0.heap.size) (k20 : w0.cell? ⟨A, off + d * 13 + 7, none⟩ = some (.int .u64 (ww0 vv))) (l20 : (⟨A, off + d * 13 + 7, none⟩ : Addr).block < w0.heap.size) (k21 : w0.cell? ⟨A, off + d * 13 + 8, none⟩ = some (.int .u64 (ww3 t))) (l21 : (⟨A, off + d * 13 + 8, none⟩ : Addr).block < w0.heap.size) (k22 : w0.cell? ⟨A, off + d * 13 + 9, none⟩ = some (.int .u64 (ww2 t))) (l22 : (⟨A, off + d * 13 + 9, none⟩ : Addr).block < w0.heap.size) (k23 : w0.cell? ⟨A, off + d * 13 + 10, none⟩ = some (.int .u64 (ww1 t))) (l23 : (⟨A, off + d * 13 + 10, none⟩ : Addr).block < w0.heap.size) (k24 : w0.cell? ⟨A, off + d * 13 + 11, none⟩ = some (.int .u64 (ww0 t))) (l24 : (⟨A, off + d * 13 + 11, none⟩ : Addr).block < w0.heap.size) (hz : a0.tmps.size = 95)
   (hQ : ∀ aq W, aq.tmps.size = a0.tmps.size → aq.defers = a0.defers → (∀ e, e ∉ ([14, 15, 16, 17, 18, 19, 20, 21, 22, 23, 24, 25, 26, 27, 28, 29, 30, 31, 32, 33, 34, 35, 36, 37, 38, 39, 40, 41, 42, 43, 44, 45, 46, 47, 48, 49, 50] : List Nat) → aq.tmps[e]? = a0.tmps[e]?) → VevM_D n cap A off c d m mc eo x y z u vv t w0.heap.size 36 (aq.tmps.getD 50 undef) W → Below w0.heap.size w0 W → Q .normal aq W) :
   (Code.region idq #[{ dst := some 14, op := Op.move (.tmp 0), type := t0, pos := q0, after := #[], guard := none },
   { dst := some 15, op := Op.move (.tmp 3), type := t1, pos := q1, after := #[], guard := none },
   { dst := some 16, op := Op.indexAddr 44 (.tmp 14) (.tmp 15), type := t2, pos := q2, after := #[⟨0, .data⟩, ⟨1, .data⟩], guard := none },
   { dst := some 17, op := Op.fieldAddr 81 (.tmp 16) 0, type := t3, pos := q3, after := #[⟨2, .data⟩], guard := none },
   { dst := some 18, op := Op.load 35 (.tmp 17), type := t4, pos := q4, after := #[⟨3, .data⟩], guard := none },
   { dst := some 19, op := Op.call { callee := Callee.value (Operand.func 23), args := #[.tmp 18], argTypes := #[35] }, type := t5, pos := q5, after := #[⟨4, .data⟩], guard := none },
   { dst := some 20, op := Op.unOp UnOp.not 4 (.tmp 19), type := t6, pos := q6, after := #[⟨5, .data⟩], guard := none },
   { dst := some 21, op := Op.move (.tmp 20), type := t7, pos := q7, after := #[⟨6, .data⟩, ⟨5, .chain⟩], guard := none },
   { dst := some 22, op := Op.move (.tmp 0), type := t8, pos := q8, after := #[⟨7, .guard⟩], guard := some (7, false) },
   { dst := some 23, op := Op.move (.tmp 3), type := t9, pos := q9, after := #[⟨7, .guard⟩], guard := some (7, false) },
   { dst := some 24, op := Op.indexAddr 44 (.tmp 22) (.tmp 23), type := t10, pos := q10, after := #[⟨8, .data⟩, ⟨9, .data⟩, ⟨7, .guard⟩], guard := some (7, false) },
   { dst := some 25, op := Op.fieldAddr 81 (.tmp 24) 1, type := t11, pos := q11, after := #[⟨10, .data⟩, ⟨7, .guard⟩], guard := some (7, false) },
   { dst := some 26, op := Op.load 29 (.tmp 25), type := t12, pos := q12, after := #[⟨11, .data⟩, ⟨7, .guard⟩], guard := some (7, false) },
   { dst := some 27, op := Op.call { callee := Callee.builtin Builtin.len, args := #[.tmp 26], argTypes := #[29] }, type := t13, pos := q13, after := #[⟨12, .data⟩, ⟨7, .guard⟩], guard := some (7, false) },
   { dst := some 28, op := Op.binOp BinOp.lss 3 (.tmp 27) (Operand.const (Value.int IntKind.i64 1)) 3, type := t14, pos := q14, after := #[⟨13, .data⟩, ⟨7, .guard⟩], guard := some (7, false) },
   { dst := some 29, op := Op.pick (.tmp 21) (Operand.const (Value.bool true)) (.tmp 28), type := t15, pos := q15, after := #[⟨7, .data⟩, ⟨14, .data⟩], guard := none },
   { dst := some 30, op := Op.move (.tmp 29), type := t16, pos := q16, after := #[⟨15, .data⟩, ⟨7, .chain⟩], guard := none },
   { dst := some 31, op := Op.move (.tmp 3), type := t17, pos := q17, after := #[⟨16, .guard⟩], guard := some (16, false) },
   { dst := some 32, op := Op.binOp BinOp.gtr 3 (.tmp 31) (Operand.const (Value.int IntKind.i64 0)) 3, type := t18, pos := q18, after := #[⟨17, .data⟩, ⟨16, .guard⟩], guard := some (16, false) },
   { dst := some 33, op := Op.move (.tmp 32), type := t19, pos := q19, after := #[⟨18, .data⟩, ⟨16, .chain⟩, ⟨16, .guard⟩], guard := some (16, false) },
   { dst := some 34, op := Op.move (.tmp 0), type := t20, pos := q20, after := #[⟨19, .guard⟩], guard := some (19, true) },
   { dst := some 35, op := Op.move (.tmp 3), type := t21, pos := q21, after := #[⟨19, .guard⟩], guard := some (19, true) },
   { dst := some 36, op := Op.binOp BinOp.sub 3 (.tmp 35) (Operand.const (Value.int IntKind.i64 1)) 3, type := t22, pos := q22, after := #[⟨21, .data⟩, ⟨19, .guard⟩], guard := some (19, true) },
   { dst := some 37, op := Op.indexAddr 44 (.tmp 34) (.tmp 36), type := t23, pos := q23, after := #[⟨20, .data⟩, ⟨22, .data⟩, ⟨19, .guard⟩], guard := some (19, true) },
   { dst := some 38, op := Op.fieldAddr 81 (.tmp 37) 0, type := t24, pos := q24, after := #[⟨23, .data⟩, ⟨19, .guard⟩], guard := some (19, true) },
   { dst := some 39, op := Op.load 35 (.tmp 38), type := t25, pos := q25, after := #[⟨24, .data⟩, ⟨19, .guard⟩], guard := some (19, true) },
   { dst := some 40, op := Op.call { callee := Callee.value (Operand.func 25), args := #[.tmp 39], argTypes := #[35] }, type := t26, pos := q26, after := #[⟨25, .data⟩, ⟨19, .chain⟩, ⟨19, .guard⟩], guard := some (19, true) },
   { dst := some 41, op := Op.move (.tmp 0), type := t27, pos := q27, after := #[⟨19, .guard⟩], guard := some (19, true) },
   { dst := some 42, op := Op.move (.tmp 3), type := t28, pos := q28, after := #[⟨19, .guard⟩], guard := some (19, true) },
   { dst := some 43, op := Op.indexAddr 44 (.tmp 41) (.tmp 42), type := t29, pos := q29, after := #[⟨27, .data⟩, ⟨28, .data⟩, ⟨19, .guard⟩], guard := some (19, true) },
   { dst := some 44, op := Op.fieldAddr 81 (.tmp 43) 0, type := t30, pos := q30, after := #[⟨29, .data⟩, ⟨19, .guard⟩], guard := some (19, true) },
   { dst := some 45, op := Op.load 35 (.tmp 44), type := t31, pos := q31, after := #[⟨30, .data⟩, ⟨19, .guard⟩], guard := some (19, true) },
   { dst := some 46, op := Op.call { callee := Callee.value (Operand.func 25), args := #[.tmp 45], argTypes := #[35] }, type := t32, pos := q32, after := #[⟨31, .data⟩, ⟨26, .chain⟩, ⟨19, .guard⟩], guard := some (19, true) },
   { dst := some 47, op := Op.call { callee := Callee.value (Operand.func 36), args := #[.tmp 40, .tmp 46], argTypes := #[58, 58] }, type := t33, pos := q33, after := #[⟨26, .data⟩, ⟨32, .data⟩, ⟨32, .chain⟩, ⟨19, .guard⟩], guard := some (19, true) },
   { dst := some 48, op := Op.binOp BinOp.geq 2 (.tmp 47) (Operand.const (Value.int IntKind.i64 0)) 2, type := t34, pos := q34, after := #[⟨33, .data⟩, ⟨19, .guard⟩], guard := some (19, true) },
   { dst := some 49, op := Op.pick (.tmp 33) (.tmp 48) (Operand.const (Value.bool false)), type := t35, pos := q35, after := #[⟨19, .data⟩, ⟨34, .data⟩, ⟨16, .guard⟩], guard := some (16, false) },
   { dst := some 50, op := Op.pick (.tmp 30) (Operand.const (Value.bool true)) (.tmp 49), type := t36, pos := q36, after := #[⟨16, .data⟩, ⟨35, .data⟩], guard := none }] true).wp Tryz.prog Q a0 w0 := by
 have hS : distS [some 14, some 15, some 16, some 17, some 18, some 19, some 20, some 21, some 22, some 23, some 24, some 25, some 26, some 27, some 28, some 29, some 30, some 31, some 32, some 33, some 34, some 35, some 36, some 37, some 38, some 39, some 40, some 41, some 42, some 43, some 44, some 45, some 46, some 47, some 48, some 49, some 50] = true := rfl
 refine wp_region_q (by kernel_rfl) w0.heap.size [some 14, some 15, some 16, some 17, some 18, some 19, some 20, some 21, some 22, some 23, some 24, some 25, some 26, some 27, some 28, some 29, some 30, some 31, some 32, some 33, some 34, some 35, some 36, some 37, some 38, some 39, some 40, some 41, some 42, some 43, some 44, some 45, some 46, some 47, some 48, some 49, some 50] (VevM_D n cap A off c d m mc eo x y z u vv t w0.heap.size) rfl ?_ ?_
 · intro Q lq aq W iq oq hJ hl ho hall
   have hJ2 := hJ
   obtain ⟨z1, z2, z3, z4, z5, z6, z7⟩ := hJ
   have g0 : aq.tmps.getD 0 undef = .slice (some ⟨A, off, none⟩) n cap := by rw [Array.getD_eq_getD_getElem?, z4 0 (by decide), h0]; rfl
   have g3 : aq.tmps.getD 3 undef = .int .i64 (c : Int) := by rw [Array.getD_eq_getD_getElem?, z4 3 (by decide), h3]; rfl
   have c0 : W.cell? ⟨A, off + c * 13, none⟩ = some (.int .u64 (ww3 x)) := (z5.cell l0).trans k0
   have c1 : W.cell? ⟨A, off + c * 13 + 1, none⟩ = some (.int .u64 (ww2 x)) := (z5.cell l1).trans k1
   have c2 : W.cell? ⟨A, off + c * 13 + 2, none⟩ = some (.int .u64 (ww1 x)) := (z5.cell l2).trans k2
   have c3 : W.cell? ⟨A, off + c * 13 + 3, none⟩ = some (.int .u64 (ww0 x)) := (z5.cell l3).trans k3
   have c4 : W.cell? ⟨A, off + c * 13 + 4, none⟩ = some (.int .u64 (ww3 y)) := (z5.cell l4).trans k4
   have c5 : W.cell? ⟨A, off + c * 13 + 5, none⟩ = some (.int .u64 (ww2 y)) := (z5.cell l5).trans k5
   have c6 : W.cell? ⟨A, off + c * 13 + 6, none⟩ = some (.int .u64 (ww1 y)) := (z5.cell l6).trans k6
   have c7 : W.cell? ⟨A, off + c * 13 + 7, none⟩ = some (.int .u64 (ww0 y)) := (z5.cell l7).trans k7
   have c8 : W.cell? ⟨A, off + c * 13 + 8, none⟩ = some (.int .u64 (ww3 z)) := (z5.cell l8).trans k8
   have c9 : W.cell? ⟨A, off + c * 13 + 9, none⟩ = some (.int .u64 (ww2 z)) := (z5.cell l9).trans k9
   have c10 : W.cell? ⟨A, off + c * 13 + 10, none⟩ = some (.int .u64 (ww1 z)) := (z5.cell l10).trans k10
   have c11 : W.cell? ⟨A, off + c * 13 + 11, none⟩ = some (.int .u64 (ww0 z)) := (z5.cell l11).trans k11
   have c12 : W.cell? ⟨A, off + c * 13 + 12, none⟩ = some (.slice eo m mc) := (z5.cell l12).trans k12
   have c13 : W.cell? ⟨A, off + d * 13, none⟩ = some (.int .u64 (ww3 u)) := (z5.cell l13).trans k13
   have c14 : W.cell? ⟨A, off + d * 13 + 1, none⟩ = some (.int .u64 (ww2 u)) := (z5.cell l14).trans k14
   have c15 : W.cell? ⟨A, off + d * 13 + 2, none⟩ = some (.int .u64 (ww1 u)) := (z5.cell l15).trans k15
   have c16 : W.cell? ⟨A, off + d * 13 + 3, none⟩ = some (.int .u64 (ww0 u)) := (z5.cell l16).trans k16
   have c17 : W.cell? ⟨A, off + d * 13 + 4, none⟩ = some (.int .u64 (ww3 vv)) := (z5.cell l17).trans k17
   have c18 : W.cell? ⟨A, off + d * 13 + 5, none⟩ = some (.int .u64 (ww2 vv)) := (z5.cell l18).trans k18
   have c19 : W.cell? ⟨A, off + d * 13 + 6, none⟩ = some (.int .u64 (ww1 vv)) := (z5.cell l19).trans k19
   have c20 : W.cell? ⟨A, off + d * 13 + 7, none⟩ = some (.int .u64 (ww0 vv)) := (z5.cell l20).trans k20
   have c21 : W.cell? ⟨A, off + d * 13 + 8, none⟩ = some (.int .u64 (ww3 t)) := (z5.cell l21).trans k21
   have c22 : W.cell? ⟨A, off + d * 13 + 9, none⟩ = some (.int .u64 (ww2 t)) := (z5.cell l22).trans k22
   have c23 : W.cell? ⟨A, off + d * 13 + 10, none⟩ = some (.int .u64 (ww1 t)) := (z5.cell l23).trans k23
   have c24 : W.cell? ⟨A, off + d * 13 + 11, none⟩ = some (.int .u64 (ww0 t)) := (z5.cell l24).trans k24
   match iq, ho with
   | 0, ho =>
     cases ho
     refine wpOp_of rfl rfl ?_
     have hK := fun (v : Value) (W2 : World) hW hT hv => hJ2.put hS 0 14 rfl (by omega) (W' := W2) hW hT v hv
     clear ho hall hl hQ
     generalize InvQ _ _ _ w0 a0 (lq.setIfInBounds 0 true) = K at hK ⊢
     clear hJ2 hS z1 z2 z3 z4 z6 z7
     go_simp
     exact hK _ _ z5 (fun _ _ h => h) rfl
   | 1, ho =>
     cases ho
     refine wpOp_of rfl rfl ?_
     have hK := fun (v : Value) (W2 : World) hW hT hv => hJ2.put hS 1 15 rfl (by omega) (W' := W2) hW hT v hv
     clear ho hall hl hQ
     generalize InvQ _ _ _ w0 a0 (lq.setIfInBounds 1 true) = K at hK ⊢
     clear hJ2 hS z1 z2 z3 z4 z6 z7
     go_simp
     exact hK _ _ z5 (fun _ _ h => h) rfl
   | 2, ho =>
     cases ho
     refine wpOp_of rfl rfl ?_
     have f0 : (aq.tmps.getD 14 undef) = .slice (some ⟨A, off, none⟩) n cap := z6 0 14 (hall ⟨0, .data⟩ (by simp) rfl) rfl
     have f1 : (aq.tmps.getD 15 undef) = .int .i64 (c : Int) := z6 1 15 (hall ⟨1, .data⟩ (by simp) rfl) rfl
     have hcI : (c : Int) < n := by omega
     have hnI : (n : Int) ≤ 200 := by omega
     have hK := fun (v : Value) (W2 : World) hW hT hv => hJ2.put hS 2 16 rfl (by omega) (W' := W2) hW hT v hv
     clear ho hall hl hQ
     generalize InvQ _ _ _ w0 a0 (lq.setIfInBounds 2 true) = K at hK ⊢
     clear hJ2 hS z1 z2 z3 z4 z6 z7
     go_simp
     exact hK _ _ z5 (fun _ _ h => h) rfl
   | 3, ho =>
     cases ho
     refine wpOp_of rfl rfl ?_
     have f2 : (aq.tmps.getD 16 undef) = .pointer (some ⟨A, off + c * 13, none⟩) := z6 2 16 (hall ⟨2, .data⟩ (by simp) rfl) rfl
     have hK := fun (v : Value) (W2 : World) hW hT hv => hJ2.put hS 3 17 rfl (by omega) (W' := W2) hW hT v hv
     clear ho hall hl hQ
     generalize InvQ _ _ _ w0 a0 (lq.setIfInBounds 3 true) = K at hK ⊢
     clear hJ2 hS z1 z2 z3 z4 z6 z7
     go_simp
     exact hK _ _ z5 (fun _ _ h => h) rfl
   | 4, ho =>
     cases ho
     refine wpOp_of rfl rfl ?_
     have f3 : (aq.tmps.getD 17 undef) = .pointer (some ⟨A, off + c * 13, none⟩) := z6 3 17 (hall ⟨3, .data⟩ (by simp) rfl) rfl
     have hK := fun (v : Value) (W2 : World) hW hT hv => hJ2.put hS 4 18 rfl (by omega) (W' := W2) hW hT v hv
     clear ho hall hl hQ
     generalize InvQ _ _ _ w0 a0 (lq.setIfInBounds 4 true) = K at hK ⊢
     clear hJ2 hS z1 z2 z3 z4 z6 z7
     go_simp
     exact hK _ _ z5 (fun _ _ h => h) rfl
   | 5, ho =>
     cases ho
     refine wpOp_of rfl rfl ?_
     have f4 : (aq.tmps.getD 18 undef) = PV x y z := z6 4 18 (hall ⟨4, .data⟩ (by simp) rfl) rfl
     have hK := fun (v : Value) (W2 : World) hW hT hv => hJ2.put hS 5 19 rfl (by omega) (W' := W2) hW hT v hv
     clear ho hall hl hQ
     generalize InvQ _ _ _ w0 a0 (lq.setIfInBounds 5 true) = K at hK ⊢
     clear hJ2 hS z1 z2 z3 z4 z6 z7
     go_simp
     refine (specPointOk_det x y z ta tb tc W).mono ?_
     rintro e v1 ⟨rfl, hBv⟩
     exact hK _ _ (z5.trans (hBv.mono z5.size)) (fun j v h => h.mono hBv) rfl
   | 6, ho =>
     cases ho
     refine wpOp_of rfl rfl ?_
     have f5 : (aq.tmps.getD 19 undef) = .bool (ptB x y z) := z6 5 19 (hall ⟨5, .data⟩ (by simp) rfl) rfl
     rw [hp] at f5
     have hK := fun (v : Value) (W2 : World) hW hT hv => hJ2.put hS 6 20 rfl (by omega) (W' := W2) hW hT v hv
     clear ho hall hl hQ
     generalize InvQ _ _ _ w0 a0 (lq.setIfInBounds 6 true) = K at hK ⊢
     clear hJ2 hS z1 z2 z3 z4 z6 z7
     go_simp
     exact hK _ _ z5 (fun _ _ h => h) rfl
   | 7, ho =>
     cases ho
     refine wpOp_of rfl rfl ?_
     have f6 : (aq.tmps.getD 20 undef) = .bool false := z6 6 20 (hall ⟨6, .data⟩ (by simp) rfl) rfl
     have hK := fun (v : Value) (W2 : World) hW hT hv => hJ2.put hS 7 21 rfl (by omega) (W' := W2) hW hT v hv
     clear ho hall hl hQ
     generalize InvQ _ _ _ w0 a0 (lq.setIfInBounds 7 true) = K at hK ⊢
     clear hJ2 hS z1 z2 z3 z4 z6 z7
     go_simp
     exact hK _ _ z5 (fun _ _ h => h) rfl
   | 8, ho =>
     cases ho
     have fg : aq.tmps.getD 21 undef = .bool false := z6 7 21 (hall ⟨7, .guard⟩ (by simp) rfl) rfl
     refine wpOp_on rfl rfl rfl rfl fg ?_
     have hK := fun (v : Value) (W2 : World) hW hT hv => hJ2.put hS 8 22 rfl (by omega) (W' := W2) hW hT v hv
     clear ho hall hl hQ
     generalize InvQ _ _ _ w0 a0 (lq.setIfInBounds 8 true) = K at hK ⊢
     clear hJ2 hS z1 z2 z3 z4 z6 z7
     go_simp
     exact hK _ _ z5 (fun _ _ h => h) rfl
   | 9, ho =>
     cases ho
     have fg : aq.tmps.getD 21 undef = .bool false := z6 7 21 (hall ⟨7, .guard⟩ (by simp) rfl) rfl
     refine wpOp_on rfl rfl rfl rfl fg ?_
     have hK := fun (v : Value) (W2 : World) hW hT hv => hJ2.put hS 9 23 rfl (by omega) (W' := W2) hW hT v hv
     clear ho hall hl hQ
     generalize InvQ _ _ _ w0 a0 (lq.setIfInBounds 9 true) = K at hK ⊢
     clear hJ2 hS z1 z2 z3 z4 z6 z7
     go_simp
     exact hK _ _ z5 (fun _ _ h => h) rfl
   | 10, ho =>
     cases ho
     have fg : aq.tmps.getD 21 undef = .bool false := z6 7 21 (hall ⟨7, .guard⟩ (by simp) rfl) rfl
     refine wpOp_on rfl rfl rfl rfl fg ?_
     have f8 : (aq.tmps.getD 22 undef) = .slice (some ⟨A, off, none⟩) n cap := z6 8 22 (hall ⟨8, .data⟩ (by simp) rfl) rfl
     have f9 : (aq.tmps.getD 23 undef) = .int .i64 (c : Int) := z6 9 23 (hall ⟨9, .data⟩ (by simp) rfl) rfl
     have hcI : (c : Int) < n := by omega
     have hnI : (n : Int) ≤ 200 := by omega
     have hK := fun (v : Value) (W2 : World) hW hT hv => hJ2.put hS 10 24 rfl (by omega) (W' := W2) hW hT v hv
     clear ho hall hl hQ
     generalize InvQ _ _ _ w0 a0 (lq.setIfInBounds 10 true) = K at hK ⊢
     clear hJ2 hS z1 z2 z3 z4 z6 z7
     go_simp
     exact hK _ _ z5 (fun _ _ h => h) rfl
   | 11, ho =>
     cases ho
     have fg : aq.tmps.getD 21 undef = .bool false := z6 7 21 (hall ⟨7, .guard⟩ (by simp) rfl) rfl
     refine wpOp_on rfl rfl rfl rfl fg ?_
     have f10 : (aq.tmps.getD 24 undef) = .pointer (some ⟨A, off + c * 13, none⟩) := z6 10 24 (hall ⟨10, .data⟩ (by simp) rfl) rfl
     have hK := fun (v : Value) (W2 : World) hW hT hv => hJ2.put hS 11 25 rfl (by omega) (W' := W2) hW hT v hv
     clear ho hall hl hQ
     generalize InvQ _ _ _ w0 a0 (lq.setIfInBounds 11 true) = K at hK ⊢
     clear hJ2 hS z1 z2 z3 z4 z6 z7
     go_simp
     exact hK _ _ z5 (fun _ _ h => h) rfl
   | 12, ho =>
     cases ho
     have fg : aq.tmps.getD 21 undef = .bool false := z6 7 21 (hall ⟨7, .guard⟩ (by simp) rfl) rfl
     refine wpOp_on rfl rfl rfl rfl fg ?_
     have f11 : (aq.tmps.getD 25 undef) = .pointer (some ⟨A, off + c * 13 + 12, none⟩) := z6 11 25 (hall ⟨11, .data⟩ (by simp) rfl) rfl
     have hK := fun (v : Value) (W2 : World) hW hT hv => hJ2.put hS 12 26 rfl (by omega) (W' := W2) hW hT v hv
     clear ho hall hl hQ
     generalize InvQ _ _ _ w0 a0 (lq.setIfInBounds 12 true) = K at hK ⊢
     clear hJ2 hS z1 z2 z3 z4 z6 z7
     go_simp
     exact hK _ _ z5 (fun _ _ h => h) rfl
   | 13, ho =>
     cases ho
     have fg : aq.tmps.getD 21 undef = .bool false := z6 7 21 (hall ⟨7, .guard⟩ (by simp) rfl) rfl
     refine wpOp_on rfl rfl rfl rfl fg ?_
     have f12 : (aq.tmps.getD 26 undef) = .slice eo m mc := z6 12 26 (hall ⟨12, .data⟩ (by simp) rfl) rfl
     have hK := fun (v : Value) (W2 : World) hW hT hv => hJ2.put hS 13 27 rfl (by omega) (W' := W2) hW hT v hv
     clear ho hall hl hQ
     generalize InvQ _ _ _ w0 a0 (lq.setIfInBounds 13 true) = K at hK ⊢
     clear hJ2 hS z1 z2 z3 z4 z6 z7
     go_simp
     exact hK _ _ z5 (fun _ _ h => h) rfl
   | 14, ho =>
     cases ho
     have fg : aq.tmps.getD 21 undef = .bool false := z6 7 21 (hall ⟨7, .guard⟩ (by simp) rfl) rfl
     refine wpOp_on rfl rfl rfl rfl fg ?_
     have f13 : (aq.tmps.getD 27 undef) = .int .i64 (m : Int) := z6 13 27 (hall ⟨13, .data⟩ (by simp) rfl) rfl
     have hgt : (1 : Int) ≤ m := by omega
     have hK := fun (v : Value) (W2 : World) hW hT hv => hJ2.put hS 14 28 rfl (by omega) (W' := W2) hW hT v hv
     clear ho hall hl hQ
     generalize InvQ _ _ _ w0 a0 (lq.setIfInBounds 14 true) = K at hK ⊢
     clear hJ2 hS z1 z2 z3 z4 z6 z7
     go_simp
     exact hK _ _ z5 (fun _ _ h => h) (by show _ = _; exact congrArg Value.bool (decide_eq_false (by omega)))
   | 15, ho =>
     cases ho
     refine wpOp_of rfl rfl ?_
     have f7 : (aq.tmps.getD 21 undef) = .bool false := z6 7 21 (hall ⟨7, .data⟩ (by simp) rfl) rfl
     have f14 : (aq.tmps.getD 28 undef) = .bool false := z6 14 28 (hall ⟨14, .data⟩ (by simp) rfl) rfl
     have hK := fun (v : Value) (W2 : World) hW hT hv => hJ2.put hS 15 29 rfl (by omega) (W' := W2) hW hT v hv
     clear ho hall hl hQ
     generalize InvQ _ _ _ w0 a0 (lq.setIfInBounds 15 true) = K at hK ⊢
     clear hJ2 hS z1 z2 z3 z4 z6 z7
     go_simp
     exact hK _ _ z5 (fun _ _ h => h) rfl
   | 16, ho =>
     cases ho
     refine wpOp_of rfl rfl ?_
     have f15 : (aq.tmps.getD 29 undef) = .bool false := z6 15 29 (hall ⟨15, .data⟩ (by simp) rfl) rfl
     have hK := fun (v : Value) (W2 : World) hW hT hv => hJ2.put hS 16 30 rfl (by omega) (W' := W2) hW hT v hv
     clear ho hall hl hQ
     generalize InvQ _ _ _ w0 a0 (lq.setIfInBounds 16 true) = K at hK ⊢
     clear hJ2 hS z1 z2 z3 z4 z6 z7
     go_simp
     exact hK _ _ z5 (fun _ _ h => h) rfl
   | 17, ho =>
     cases ho
     have fg : aq.tmps.getD 30 undef = .bool false := z6 16 30 (hall ⟨16, .guard⟩ (by simp) rfl) rfl
     refine wpOp_on rfl rfl rfl rfl fg ?_
     have hK := fun (v : Value) (W2 : World) hW hT hv => hJ2.put hS 17 31 rfl (by omega) (W' := W2) hW hT v hv
     clear ho hall hl hQ
     generalize InvQ _ _ _ w0 a0 (lq.setIfInBounds 17 true) = K at hK ⊢
     clear hJ2 hS z1 z2 z3 z4 z6 z7
     go_simp
     exact hK _ _ z5 (fun _ _ h => h) rfl
   | 18, ho =>
     cases ho
     have fg : aq.tmps.getD 30 undef = .bool false := z6 16 30 (hall ⟨16, .guard⟩ (by simp) rfl) rfl
     refine wpOp_on rfl rfl rfl rfl fg ?_
     have f17 : (aq.tmps.getD 31 undef) = .int .i64 (c : Int) := z6 17 31 (hall ⟨17, .data⟩ (by simp) rfl) rfl
     have hgt : (0 : Int) < c := by have ho := hcd.out; omega
     have hK := fun (v : Value) (W2 : World) hW hT hv => hJ2.put hS 18 32 rfl (by omega) (W' := W2) hW hT v hv
     clear ho hall hl hQ
     generalize InvQ _ _ _ w0 a0 (lq.setIfInBounds 18 true) = K at hK ⊢
     clear hJ2 hS z1 z2 z3 z4 z6 z7
     go_simp
     exact hK _ _ z5 (fun _ _ h => h) (by show _ = _; exact congrArg Value.bool (decide_eq_true (by omega)))
   | 19, ho =>
     cases ho
     have fg : aq.tmps.getD 30 undef = .bool false := z6 16 30 (hall ⟨16, .guard⟩ (by simp) rfl) rfl
     refine wpOp_on rfl rfl rfl rfl fg ?_
     have f18 : (aq.tmps.getD 32 undef) = .bool true := z6 18 32 (hall ⟨18, .data⟩ (by simp) rfl) rfl
     have hK := fun (v : Value) (W2 : World) hW hT hv => hJ2.put hS 19 33 rfl (by omega) (W' := W2) hW hT v hv
     clear ho hall hl hQ
     generalize InvQ _ _ _ w0 a0 (lq.setIfInBounds 19 true) = K at hK ⊢
     clear hJ2 hS z1 z2 z3 z4 z6 z7
     go_simp
     exact hK _ _ z5 (fun _ _ h => h) rfl
   | 20, ho =>
     cases ho
     have fg : aq.tmps.getD 33 undef = .bool true := z6 19 33 (hall ⟨19, .guard⟩ (by simp) rfl) rfl
     refine wpOp_on rfl rfl rfl rfl fg ?_
     have hK := fun (v : Value) (W2 : World) hW hT hv => hJ2.put hS 20 34 rfl (by omega) (W' := W2) hW hT v hv
     clear ho hall hl hQ
     generalize InvQ _ _ _ w0 a0 (lq.setIfInBounds 20 true) = K at hK ⊢
     clear hJ2 hS z1 z2 z3 z4 z6 z7
     go_simp
     exact hK _ _ z5 (fun _ _ h => h) rfl
   | 21, ho =>
     cases ho
     have fg : aq.tmps.getD 33 undef = .bool true := z6 19 33 (hall ⟨19, .guard⟩ (by simp) rfl) rfl
     refine wpOp_on rfl rfl rfl rfl fg ?_
     have hK := fun (v : Value) (W2 : World) hW hT hv => hJ2.put hS 21 35 rfl (by omega) (W' := W2) hW hT v hv
     clear ho hall hl hQ
     generalize InvQ _ _ _ w0 a0 (lq.setIfInBounds 21 true) = K at hK ⊢
     clear hJ2 hS z1 z2 z3 z4 z6 z7
     go_simp
     exact hK _ _ z5 (fun _ _ h => h) rfl
   | 22, ho =>
     cases ho
     have fg : aq.tmps.getD 33 undef = .bool true := z6 19 33 (hall ⟨19, .guard⟩ (by simp) rfl) rfl
     refine wpOp_on rfl rfl rfl rfl fg ?_
     have f21 : (aq.tmps.getD 35 undef) = .int .i64 (c : Int) := z6 21 35 (hall ⟨21, .data⟩ (by simp) rfl) rfl
     have hcI : (c : Int) < n := by omega
     have hnI : (n : Int) ≤ 200 := by omega
     have hcz : (c : Int) = d + 1 := by have ho := hcd.out; omega
     have hwd : IntKind.i64.wrap (d : Int) = d := by have ho := hcd.out; rw [IntKind.wrap_i64]; omega
     have hK := fun (v : Value) (W2 : World) hW hT hv => hJ2.put hS 22 36 rfl (by omega) (W' := W2) hW hT v hv
     clear ho hall hl hQ
     generalize InvQ _ _ _ w0 a0 (lq.setIfInBounds 22 true) = K at hK ⊢
     clear hJ2 hS z1 z2 z3 z4 z6 z7
     go_simp
     exact hK _ _ z5 (fun _ _ h => h) (by show _ = _; first | rfl | go_num)
   | 23, ho =>
     cases ho
     have fg : aq.tmps.getD 33 undef = .bool true := z6 19 33 (hall ⟨19, .guard⟩ (by simp) rfl) rfl
     refine wpOp_on rfl rfl rfl rfl fg ?_
     have f20 : (aq.tmps.getD 34 undef) = .slice (some ⟨A, off, none⟩) n cap := z6 20 34 (hall ⟨20, .data⟩ (by simp) rfl) rfl
     have f22 : (aq.tmps.getD 36 undef) = .int .i64 (d : Int) := z6 22 36 (hall ⟨22, .data⟩ (by simp) rfl) rfl
     have hdI : (d : Int) < n := by have ho := hcd.out; omega
     have hnI : (n : Int) ≤ 200 := by omega
     have hK := fun (v : Value) (W2 : World) hW hT hv => hJ2.put hS 23 37 rfl (by omega) (W' := W2) hW hT v hv
     clear ho hall hl hQ
     generalize InvQ _ _ _ w0 a0 (lq.setIfInBounds 23 true) = K at hK ⊢
     clear hJ2 hS z1 z2 z3 z4 z6 z7
     go_simp
     exact hK _ _ z5 (fun _ _ h => h) rfl
   | 24, ho =>
     cases ho
     have fg : aq.tmps.getD 33 undef = .bool true := z6 19 33 (hall ⟨19, .guard⟩ (by simp) rfl) rfl
     refine wpOp_on rfl rfl rfl rfl fg ?_
     have f23 : (aq.tmps.getD 37 undef) = .pointer (some ⟨A, off + d * 13, none⟩) := z6 23 37 (hall ⟨23, .data⟩ (by simp) rfl) rfl
     have hK := fun (v : Value) (W2 : World) hW hT hv => hJ2.put hS 24 38 rfl (by omega) (W' := W2) hW hT v hv
     clear ho hall hl hQ
     generalize InvQ _ _ _ w0 a0 (lq.setIfInBounds 24 true) = K at hK ⊢
     clear hJ2 hS z1 z2 z3 z4 z6 z7
     go_simp
     exact hK _ _ z5 (fun _ _ h => h) rfl
   | 25, ho =>
     cases ho
     have fg : aq.tmps.getD 33 undef = .bool true := z6 19 33 (hall ⟨19, .guard⟩ (by simp) rfl) rfl
     refine wpOp_on rfl rfl rfl rfl fg ?_
     have f24 : (aq.tmps.getD 38 undef) = .pointer (some ⟨A, off + d * 13, none⟩) := z6 24 38 (hall ⟨24, .data⟩ (by simp) rfl) rfl
     have hK := fun (v : Value) (W2 : World) hW hT hv => hJ2.put hS 25 39 rfl (by omega) (W' := W2) hW hT v hv
     clear ho hall hl hQ
     generalize InvQ _ _ _ w0 a0 (lq.setIfInBounds 25 true) = K at hK ⊢
     clear hJ2 hS z1 z2 z3 z4 z6 z7
     go_simp
     exact hK _ _ z5 (fun _ _ h => h) rfl
   | 26, ho =>
     cases ho
     have fg : aq.tmps.getD 33 undef = .bool true := z6 19 33 (hall ⟨19, .guard⟩ (by simp) rfl) rfl
     refine wpOp_on rfl rfl rfl rfl fg ?_
     have f25 : (aq.tmps.getD 39 undef) = PV u vv t := z6 25 39 (hall ⟨25, .data⟩ (by simp) rfl) rfl
     have hK := fun (v : Value) (W2 : World) hW hT hv => hJ2.put hS 26 40 rfl (by omega) (W' := W2) hW hT v hv
     clear ho hall hl hQ
     generalize InvQ _ _ _ w0 a0 (lq.setIfInBounds 26 true) = K at hK ⊢
     clear hJ2 hS z1 z2 z3 z4 z6 z7
     go_simp
     refine (l3Of_det u vv t ua ub uc W).mono ?_
     rintro e v1 ⟨s1, o1, n1, m1, e1, s2, o2, n2, m2, e2, s3, o3, n3, m3, e3, rfl, N1, N2, N3, hBv⟩
     exact hK _ _ (z5.trans (hBv.mono z5.size)) (fun j v h => h.mono hBv) ⟨_, _, _, _, _, _, _, _, _, _, _, _, _, _, _, rfl, N1, N2, N3⟩
   | 27, ho =>
     cases ho
     have fg : aq.tmps.getD 33 undef = .bool true := z6 19 33 (hall ⟨19, .guard⟩ (by simp) rfl) rfl
     refine wpOp_on rfl rfl rfl rfl fg ?_
     have hK := fun (v : Value) (W2 : World) hW hT hv => hJ2.put hS 27 41 rfl (by omega) (W' := W2) hW hT v hv
     clear ho hall hl hQ
     generalize InvQ _ _ _ w0 a0 (lq.setIfInBounds 27 true) = K at hK ⊢
     clear hJ2 hS z1 z2 z3 z4 z6 z7
     go_simp
     exact hK _ _ z5 (fun _ _ h => h) rfl
   | 28, ho =>
     cases ho
     have fg : aq.tmps.getD 33 undef = .bool true := z6 19 33 (hall ⟨19, .guard⟩ (by simp) rfl) rfl
     refine wpOp_on rfl rfl rfl rfl fg ?_
     have hK := fun (v : Value) (W2 : World) hW hT hv => hJ2.put hS 28 42 rfl (by omega) (W' := W2) hW hT v hv
     clear ho hall hl hQ
     generalize InvQ _ _ _ w0 a0 (lq.setIfInBounds 28 true) = K at hK ⊢
     clear hJ2 hS z1 z2 z3 z4 z6 z7
     go_simp
     exact hK _ _ z5 (fun _ _ h => h) rfl
   | 29, ho =>
     cases ho
     have fg : aq.tmps.getD 33 undef = .bool true := z6 19 33 (hall ⟨19, .guard⟩ (by simp) rfl) rfl
     refine wpOp_on rfl rfl rfl rfl fg ?_
     have f27 : (aq.tmps.getD 41 undef) = .slice (some ⟨A, off, none⟩) n cap := z6 27 41 (hall ⟨27, .data⟩ (by simp) rfl) rfl
     have f28 : (aq.tmps.getD 42 undef) = .int .i64 (c : Int) := z6 28 42 (hall ⟨28, .data⟩ (by simp) rfl) rfl
     have hcI : (c : Int) < n := by omega
     have hnI : (n : Int) ≤ 200 := by omega
     have hK := fun (v : Value) (W2 : World) hW hT hv => hJ2.put hS 29 43 rfl (by omega) (W' := W2) hW hT v hv
     clear ho hall hl hQ
     generalize InvQ _ _ _ w0 a0 (lq.setIfInBounds 29 true) = K at hK ⊢
     clear hJ2 hS z1 z2 z3 z4 z6 z7
     go_simp
     exact hK _ _ z5 (fun _ _ h => h) rfl
   | 30, ho =>
     cases ho
     have fg : aq.tmps.getD 33 undef = .bool true := z6 19 33 (hall ⟨19, .guard⟩ (by simp) rfl) rfl
     refine wpOp_on rfl rfl rfl rfl fg ?_
     have f29 : (aq.tmps.getD 43 undef) = .pointer (some ⟨A, off + c * 13, none⟩) := z6 29 43 (hall ⟨29, .data⟩ (by simp) rfl) rfl
     have hK := fun (v : Value) (W2 : World) hW hT hv => hJ2.put hS 30 44 rfl (by omega) (W' := W2) hW hT v hv
     clear ho hall hl hQ
     generalize InvQ _ _ _ w0 a0 (lq.setIfInBounds 30 true) = K at hK ⊢
     clear hJ2 hS z1 z2 z3 z4 z6 z7
     go_simp
     exact hK _ _ z5 (fun _ _ h => h) rfl
   | 31, ho =>
     cases ho
     have fg : aq.tmps.getD 33 undef = .bool true := z6 19 33 (hall ⟨19, .guard⟩ (by simp) rfl) rfl
     refine wpOp_on rfl rfl rfl rfl fg ?_
     have f30 : (aq.tmps.getD 44 undef) = .pointer (some ⟨A, off + c * 13, none⟩) := z6 30 44 (hall ⟨30, .data⟩ (by simp) rfl) rfl
     have hK := fun (v : Value) (W2 : World) hW hT hv => hJ2.put hS 31 45 rfl (by omega) (W' := W2) hW hT v hv
     clear ho hall hl hQ
     generalize InvQ _ _ _ w0 a0 (lq.setIfInBounds 31 true) = K at hK ⊢
     clear hJ2 hS z1 z2 z3 z4 z6 z7
     go_simp
     exact hK _ _ z5 (fun _ _ h => h) rfl
   | 32, ho =>
     cases ho
     have fg : aq.tmps.getD 33 undef = .bool true := z6 19 33 (hall ⟨19, .guard⟩ (by simp) rfl) rfl
     refine wpOp_on rfl rfl rfl rfl fg ?_
     have f31 : (aq.tmps.getD 45 undef) = PV x y z := z6 31 45 (hall ⟨31, .data⟩ (by simp) rfl) rfl
     have hK := fun (v : Value) (W2 : World) hW hT hv => hJ2.put hS 32 46 rfl (by omega) (W' := W2) hW hT v hv
     clear ho hall hl hQ
     generalize InvQ _ _ _ w0 a0 (lq.setIfInBounds 32 true) = K at hK ⊢
     clear hJ2 hS z1 z2 z3 z4 z6 z7
     go_simp
     refine (l3Of_det x y z ta tb tc W).mono ?_
     rintro e v1 ⟨s1, o1, n1, m1, e1, s2, o2, n2, m2, e2, s3, o3, n3, m3, e3, rfl, N1, N2, N3, hBv⟩
     exact hK _ _ (z5.trans (hBv.mono z5.size)) (fun j v h => h.mono hBv) ⟨_, _, _, _, _, _, _, _, _, _, _, _, _, _, _, rfl, N1, N2, N3⟩
   | 33, ho =>
     cases ho
     have fg : aq.tmps.getD 33 undef = .bool true := z6 19 33 (hall ⟨19, .guard⟩ (by simp) rfl) rfl
     refine wpOp_on rfl rfl rfl rfl fg ?_
     have f26 : L3E u vv t (aq.tmps.getD 40 undef) W := z6 26 40 (hall ⟨26, .data⟩ (by simp) rfl) rfl
     obtain ⟨as1, ao1, an1, ac1, ad1, as2, ao2, an2, ac2, ad2, as3, ao3, an3, ac3, ad3, ae, A1, A2, A3⟩ := f26
     have f32 : L3E x y z (aq.tmps.getD 46 undef) W := z6 32 46 (hall ⟨32, .data⟩ (by simp) rfl) rfl
     obtain ⟨bs1, bo1, bn1, bc1, bd1, bs2, bo2, bn2, bc2, bd2, bs3, bo3, bn3, bc3, bd3, be, B1, B2, B3⟩ := f32
     have hK := fun (v : Value) (W2 : World) hW hT hv => hJ2.put hS 33 47 rfl (by omega) (W' := W2) hW hT v hv
     clear ho hall hl hQ
     generalize InvQ _ _ _ w0 a0 (lq.setIfInBounds 33 true) = K at hK ⊢
     clear hJ2 hS z1 z2 z3 z4 z6 z7
     go_simp
     refine (l3Cmp_any as1 as2 as3 ao1 ao2 ao3 an1 ac1 an2 ac2 an3 ac3 bs1 bs2 bs3 bo1 bo2 bo3 bn1 bc1 bn2 bc2 bn3 bc3 ad1 ad2 ad3 bd1 bd2 bd3 u vv t x y z 8 (by omega) W A1 A2 A3 B1 B2 B3).mono ?_
     rintro e v1 ⟨rfl, hBv⟩
     exact hK _ _ (z5.trans (hBv.mono z5.size)) (fun j v h => h.mono hBv) rfl
   | 34, ho =>
     cases ho
     have fg : aq.tmps.getD 33 undef = .bool true := z6 19 33 (hall ⟨19, .guard⟩ (by simp) rfl) rfl
     refine wpOp_on rfl rfl rfl rfl fg ?_
     have f33 : (aq.tmps.getD 47 undef) = .int .i64 (ordI u vv t x y z) := z6 33 47 (hall ⟨33, .data⟩ (by simp) rfl) rfl
     have hK := fun (v : Value) (W2 : World) hW hT hv => hJ2.put hS 34 48 rfl (by omega) (W' := W2) hW hT v hv
     clear ho hall hl hQ
     generalize InvQ _ _ _ w0 a0 (lq.setIfInBounds 34 true) = K at hK ⊢
     clear hJ2 hS z1 z2 z3 z4 z6 z7
     go_simp
     exact hK _ _ z5 (fun _ _ h => h) (by show _ = _; first | rfl | simp)
   | 35, ho =>
     cases ho
     have fg : aq.tmps.getD 30 undef = .bool false := z6 16 30 (hall ⟨16, .guard⟩ (by simp) rfl) rfl
     refine wpOp_on rfl rfl rfl rfl fg ?_
     have f19 : (aq.tmps.getD 33 undef) = .bool true := z6 19 33 (hall ⟨19, .data⟩ (by simp) rfl) rfl
     have f34 : (aq.tmps.getD 48 undef) = .bool (decide (0 ≤ ordI u vv t x y z)) := z6 34 48 (hall ⟨34, .data⟩ (by simp) rfl) rfl
     have hK := fun (v : Value) (W2 : World) hW hT hv => hJ2.put hS 35 49 rfl (by omega) (W' := W2) hW hT v hv
     clear ho hall hl hQ
     generalize InvQ _ _ _ w0 a0 (lq.setIfInBounds 35 true) = K at hK ⊢
     clear hJ2 hS z1 z2 z3 z4 z6 z7
     go_simp
     exact hK _ _ z5 (fun _ _ h => h) rfl
   | 36, ho =>
     cases ho
     refine wpOp_of rfl rfl ?_
     have f16 : (aq.tmps.getD 30 undef) = .bool false := z6 16 30 (hall ⟨16, .data⟩ (by simp) rfl) rfl
     have f35 : (aq.tmps.getD 49 undef) = .bool (decide (0 ≤ ordI u vv t x y z)) := z6 35 49 (hall ⟨35, .data⟩ (by simp) rfl) rfl
     have hK := fun (v : Value) (W2 : World) hW hT hv => hJ2.put hS 36 50 rfl (by omega) (W' := W2) hW hT v hv
     clear ho hall hl hQ
     generalize InvQ _ _ _ w0 a0 (lq.setIfInBounds 36 true) = K at hK ⊢
     clear hJ2 hS z1 z2 z3 z4 z6 z7
     go_simp
     exact hK _ _ z5 (fun _ _ h => h) rfl
   | iq + 37, ho => simp at ho
 · intro lq aq W hJ hr
   obtain ⟨z1, z2, z3, z4, z5, z6, z7⟩ := hJ
   have hl := listed_of hr [0, 1, 2, 3, 4, 5, 6, 7, 8, 9, 10, 11, 12, 13, 14, 15, 16, 17, 18, 19, 20, 21, 22, 23, 24, 25, 26, 27, 28, 29, 30, 31, 32, 33, 34, 35, 36] [] (by simp) (by kernel_rfl) (by rw [z1]; decide)
   exact hQ aq W z2 z3 (fun e he => z4 e (by simpa using he)) (z6 36 50 (hl 36 (by simp)) rfl) z5
end Go.Proofs.YtpmnmlhfaoajdaaGreat
