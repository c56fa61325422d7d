/- Part 9 of the walks that the proof leans on. -/
import Derived.Test.YtpmnmlhfaoajdaaGreatPart8
set_option maxRecDepth 100000
set_option maxHeartbeats 16000000
namespace Go.Proofs.YtpmnmlhfaoajdaaGreat
open Go.RowKit
def VevN_A (n cap A off c m mc G ob k : Nat) (x : Int) (_B : Nat) : Nat → Value → World → Prop
 | 0, v, _ => v = .slice (some ⟨A, off, none⟩) n cap
 | 1, v, _ => v = .int .i64 (c : Int)
 | 2, v, _ => v = .pointer (some ⟨A, off + c * 13, none⟩)
 | 3, v, _ => v = .pointer (some ⟨A, off + c * 13 + 12, none⟩)
 | 4, v, _ => v = .slice (some ⟨G, ob, none⟩) m mc
 | 5, v, _ => v = .int .i64 (k : Int)
 | 6, v, _ => v = .pointer (some ⟨G, ob + k, none⟩)
 | 7, v, _ => v = .int .i64 x
 | 8, v, _ => v = .bool false
 | 9, v, _ => v = .bool true
 | 10, v, _ => v = .bool true
 | 11, v, _ => v = undef
 | 12, v, _ => v = undef
 | 13, v, _ => v = undef
 | 14, v, _ => v = undef
 | 15, v, _ => v = undef
 | 16, v, _ => v = undef
 | 17, v, _ => v = undef
 | 18, v, _ => v = undef
 | 19, v, _ => v = undef
 | 20, v, _ => v = undef
 | 21, v, _ => v = undef
 | 22, v, _ => v = undef
 | 23, v, _ => v = undef
 | 24, v, _ => v = undef
 | 25, v, _ => v = undef
 | 26, v, _ => v = undef
 | 27, v, _ => v = undef
 | 28, v, _ => v = undef
 | 29, v, _ => v = undef
 | 30, v, _ => v = undef
 | 31, v, _ => v = undef
 | 32, v, _ => v = undef
 | 33, v, _ => v = .bool true
 | _, _, _ => True
theorem VevN_A.mono {n cap A off c m mc G ob k : Nat} {x : Int} {B j : Nat} {v : Value} {W W2 : World} (_hB : Below W.heap.size W W2) (h : VevN_A n cap A off c m mc G ob k x B j v W) : VevN_A n cap A off c m mc G ob k x B j v W2 := by
 unfold VevN_A at *
 split <;> simp only at h <;> first | exact h | trivial
theorem evN_A {Q : Exit → Act → World → Prop} {n cap A off c m mc G ob k : Nat} {x : Int}  {w0 : World} {a0 : Act} {idq : Nat} {t0 t1 t2 t3 t4 t5 t6 t7 t8 t9 t10 t11 t12 t13 t14 t15 t16 t17 t18 t19 t20 t21 t22 t23 t24 t25 t26 t27 t28 t29 t30 t31 t32 t33 : TypeId} {q0 q1 q2 q3 q4 q5 q6 q7 q8 q9 q10 q11 q12 q13 q14 q15 q16 q17 q18 q19 q20 q21 q22 q23 q24 q25 q26 q27 q28 q29 q30 q31 q32 q33 : String}
   (hc : c < n) (hn : n ≤ 200) (hk : k < m) (hm : m ≤ 1048576) (hx : decide (0 ≤ x ∧ x ≤ 39) = false) (h0 : a0.tmps[0]? = some (.slice (some ⟨A, off, none⟩) n cap)) (h3 : a0.tmps[3]? = some (.int .i64 (c : Int))) (h4 : a0.tmps[4]? = some (.int .i64 (k : Int))) (k0 : w0.cell? ⟨A, off + c * 13 + 12, none⟩ = some (.slice (some ⟨G, ob, none⟩) m mc)) (l0 : (⟨A, off + c * 13 + 12, none⟩ : Addr).block < w0.heap.size) (k1 : w0.cell? ⟨G, ob + k, none⟩ = some (.int .i64 x)) (l1 : (⟨G, ob + k, none⟩ : Addr).block < w0.heap.size) (hz : a0.tmps.size = 95)
   (hQ : ∀ aq W, aq.tmps.size = a0.tmps.size → aq.defers = a0.defers → (∀ e, e ∉ ([61, 62, 63, 64, 65, 66, 67, 68, 69, 70, 71, 72, 73, 74, 75, 76, 77, 78, 79, 80, 81, 82, 83, 84, 85, 86, 87, 88, 89, 90, 91, 92, 93, 94] : List Nat) → aq.tmps[e]? = a0.tmps[e]?) → VevN_A n cap A off c m mc G ob k x w0.heap.size 33 (aq.tmps.getD 94 undef) W → Below w0.heap.size w0 W → Q .normal aq W) :
   (Code.region idq #[{ dst := some 61, op := Op.move (.tmp 0), type := t0, pos := q0, after := #[], guard := none },
   { dst := some 62, op := Op.move (.tmp 3), type := t1, pos := q1, after := #[], guard := none },
   { dst := some 63, op := Op.indexAddr 44 (.tmp 61) (.tmp 62), type := t2, pos := q2, after := #[⟨0, .data⟩, ⟨1, .data⟩], guard := none },
   { dst := some 64, op := Op.fieldAddr 81 (.tmp 63) 1, type := t3, pos := q3, after := #[⟨2, .data⟩], guard := none },
   { dst := some 65, op := Op.load 29 (.tmp 64), type := t4, pos := q4, after := #[⟨3, .data⟩], guard := none },
   { dst := some 66, op := Op.move (.tmp 4), type := t5, pos := q5, after := #[], guard := none },
   { dst := some 67, op := Op.indexAddr 29 (.tmp 65) (.tmp 66), type := t6, pos := q6, after := #[⟨4, .data⟩, ⟨5, .data⟩], guard := none },
   { dst := some 68, op := Op.load 2 (.tmp 67), type := t7, pos := q7, after := #[⟨6, .data⟩], guard := none },
   { dst := some 69, op := Op.call { callee := Callee.value (Operand.func 34), args := #[.tmp 68, Operand.const (Value.int IntKind.i64 0), Operand.const (Value.int IntKind.i64 39)], argTypes := #[2, 2, 2] }, type := t8, pos := q8, after := #[⟨7, .data⟩], guard := none },
   { dst := some 70, op := Op.unOp UnOp.not 4 (.tmp 69), type := t9, pos := q9, after := #[⟨8, .data⟩], guard := none },
   { dst := some 71, op := Op.move (.tmp 70), type := t10, pos := q10, after := #[⟨9, .data⟩, ⟨8, .chain⟩], guard := none },
   { dst := some 72, op := Op.move (.tmp 4), type := t11, pos := q11, after := #[⟨10, .guard⟩], guard := some (10, false) },
   { dst := some 73, op := Op.binOp BinOp.gtr 3 (.tmp 72) (Operand.const (Value.int IntKind.i64 0)) 3, type := t12, pos := q12, after := #[⟨11, .data⟩, ⟨10, .guard⟩], guard := some (10, false) },
   { dst := some 74, op := Op.move (.tmp 73), type := t13, pos := q13, after := #[⟨12, .data⟩, ⟨10, .chain⟩, ⟨10, .guard⟩], guard := some (10, false) },
   { dst := some 75, op := Op.move (.tmp 0), type := t14, pos := q14, after := #[⟨13, .guard⟩], guard := some (13, true) },
   { dst := some 76, op := Op.move (.tmp 3), type := t15, pos := q15, after := #[⟨13, .guard⟩], guard := some (13, true) },
   { dst := some 77, op := Op.indexAddr 44 (.tmp 75) (.tmp 76), type := t16, pos := q16, after := #[⟨14, .data⟩, ⟨15, .data⟩, ⟨13, .guard⟩], guard := some (13, true) },
   { dst := some 78, op := Op.fieldAddr 81 (.tmp 77) 1, type := t17, pos := q17, after := #[⟨16, .data⟩, ⟨13, .guard⟩], guard := some (13, true) },
   { dst := some 79, op := Op.load 29 (.tmp 78), type := t18, pos := q18, after := #[⟨17, .data⟩, ⟨13, .guard⟩], guard := some (13, true) },
   { dst := some 80, op := Op.move (.tmp 4), type := t19, pos := q19, after := #[⟨13, .guard⟩], guard := some (13, true) },
   { dst := some 81, op := Op.binOp BinOp.sub 3 (.tmp 80) (Operand.const (Value.int IntKind.i64 1)) 3, type := t20, pos := q20, after := #[⟨19, .data⟩, ⟨13, .guard⟩], guard := some (13, true) },
   { dst := some 82, op := Op.indexAddr 29 (.tmp 79) (.tmp 81), type := t21, pos := q21, after := #[⟨18, .data⟩, ⟨20, .data⟩, ⟨13, .guard⟩], guard := some (13, true) },
   { dst := some 83, op := Op.load 2 (.tmp 82), type := t22, pos := q22, after := #[⟨21, .data⟩, ⟨13, .guard⟩], guard := some (13, true) },
   { dst := some 84, op := Op.move (.tmp 0), type := t23, pos := q23, after := #[⟨13, .guard⟩], guard := some (13, true) },
   { dst := some 85, op := Op.move (.tmp 3), type := t24, pos := q24, after := #[⟨13, .guard⟩], guard := some (13, true) },
   { dst := some 86, op := Op.indexAddr 44 (.tmp 84) (.tmp 85), type := t25, pos := q25, after := #[⟨23, .data⟩, ⟨24, .data⟩, ⟨13, .guard⟩], guard := some (13, true) },
   { dst := some 87, op := Op.fieldAddr 81 (.tmp 86) 1, type := t26, pos := q26, after := #[⟨25, .data⟩, ⟨13, .guard⟩], guard := some (13, true) },
   { dst := some 88, op := Op.load 29 (.tmp 87), type := t27, pos := q27, after := #[⟨26, .data⟩, ⟨13, .guard⟩], guard := some (13, true) },
   { dst := some 89, op := Op.move (.tmp 4), type := t28, pos := q28, after := #[⟨13, .guard⟩], guard := some (13, true) },
   { dst := some 90, op := Op.indexAddr 29 (.tmp 88) (.tmp 89), type := t29, pos := q29, after := #[⟨27, .data⟩, ⟨28, .data⟩, ⟨13, .guard⟩], guard := some (13, true) },
   { dst := some 91, op := Op.load 2 (.tmp 90), type := t30, pos := q30, after := #[⟨29, .data⟩, ⟨13, .guard⟩], guard := some (13, true) },
   { dst := some 92, op := Op.binOp BinOp.geq 2 (.tmp 83) (.tmp 91) 2, type := t31, pos := q31, after := #[⟨22, .data⟩, ⟨30, .data⟩, ⟨13, .guard⟩], guard := some (13, true) },
   { dst := some 93, op := Op.pick (.tmp 74) (.tmp 92) (Operand.const (Value.bool false)), type := t32, pos := q32, after := #[⟨13, .data⟩, ⟨31, .data⟩, ⟨10, .guard⟩], guard := some (10, false) },
   { dst := some 94, op := Op.pick (.tmp 71) (Operand.const (Value.bool true)) (.tmp 93), type := t33, pos := q33, after := #[⟨10, .data⟩, ⟨32, .data⟩], guard := none }] true).wp Tryz.prog Q a0 w0 := by
 have hS : distS [some 61, some 62, some 63, some 64, some 65, some 66, some 67, some 68, some 69, some 70, some 71, some 72, some 73, some 74, some 75, some 76, some 77, some 78, some 79, some 80, some 81, some 82, some 83, some 84, some 85, some 86, some 87, some 88, some 89, some 90, some 91, some 92, some 93, some 94] = true := rfl
 refine wp_region_q (by kernel_rfl) w0.heap.size [some 61, some 62, some 63, some 64, some 65, some 66, some 67, some 68, some 69, some 70, some 71, some 72, some 73, some 74, some 75, some 76, some 77, some 78, some 79, some 80, some 81, some 82, some 83, some 84, some 85, some 86, some 87, some 88, some 89, some 90, some 91, some 92, some 93, some 94] (VevN_A n cap A off c m mc G ob k x w0.heap.size) rfl ?_ ?_
 · intro Q lq aq W iq oq hJ hl ho hall
   have hJ2 := hJ
   obtain ⟨z1, z2, z3, z4, z5, z6, z7⟩ := hJ
   have g0 : aq.tmps.getD 0 undef = .slice (some ⟨A, off, none⟩) n cap := by rw [Array.getD_eq_getD_getElem?, z4 0 (by decide), h0]; rfl
   have g3 : aq.tmps.getD 3 undef = .int .i64 (c : Int) := by rw [Array.getD_eq_getD_getElem?, z4 3 (by decide), h3]; rfl
   have g4 : aq.tmps.getD 4 undef = .int .i64 (k : Int) := by rw [Array.getD_eq_getD_getElem?, z4 4 (by decide), h4]; rfl
   have c0 : W.cell? ⟨A, off + c * 13 + 12, none⟩ = some (.slice (some ⟨G, ob, none⟩) m mc) := (z5.cell l0).trans k0
   have c1 : W.cell? ⟨G, ob + k, none⟩ = some (.int .i64 x) := (z5.cell l1).trans k1
   match iq, ho with
   | 0, ho =>
     cases ho
     refine wpOp_of rfl rfl ?_
     have hK := fun (v : Value) (W2 : World) hW hT hv => hJ2.put hS 0 61 rfl (by omega) (W' := W2) hW hT v hv
     clear ho hall hl hQ
     generalize InvQ _ _ _ w0 a0 (lq.setIfInBounds 0 true) = K at hK ⊢
     clear hJ2 hS z1 z2 z3 z4 z6 z7
     go_simp
     exact hK _ _ z5 (fun _ _ h => h) rfl
   | 1, ho =>
     cases ho
     refine wpOp_of rfl rfl ?_
     have hK := fun (v : Value) (W2 : World) hW hT hv => hJ2.put hS 1 62 rfl (by omega) (W' := W2) hW hT v hv
     clear ho hall hl hQ
     generalize InvQ _ _ _ w0 a0 (lq.setIfInBounds 1 true) = K at hK ⊢
     clear hJ2 hS z1 z2 z3 z4 z6 z7
     go_simp
     exact hK _ _ z5 (fun _ _ h => h) rfl
   | 2, ho =>
     cases ho
     refine wpOp_of rfl rfl ?_
     have f0 : (aq.tmps.getD 61 undef) = .slice (some ⟨A, off, none⟩) n cap := z6 0 61 (hall ⟨0, .data⟩ (by simp) rfl) rfl
     have f1 : (aq.tmps.getD 62 undef) = .int .i64 (c : Int) := z6 1 62 (hall ⟨1, .data⟩ (by simp) rfl) rfl
     have hcI : (c : Int) < n := by omega
     have hnI : (n : Int) ≤ 200 := by omega
     have hK := fun (v : Value) (W2 : World) hW hT hv => hJ2.put hS 2 63 rfl (by omega) (W' := W2) hW hT v hv
     clear ho hall hl hQ
     generalize InvQ _ _ _ w0 a0 (lq.setIfInBounds 2 true) = K at hK ⊢
     clear hJ2 hS z1 z2 z3 z4 z6 z7
     go_simp
     exact hK _ _ z5 (fun _ _ h => h) rfl
   | 3, ho =>
     cases ho
     refine wpOp_of rfl rfl ?_
     have f2 : (aq.tmps.getD 63 undef) = .pointer (some ⟨A, off + c * 13, none⟩) := z6 2 63 (hall ⟨2, .data⟩ (by simp) rfl) rfl
     have hK := fun (v : Value) (W2 : World) hW hT hv => hJ2.put hS 3 64 rfl (by omega) (W' := W2) hW hT v hv
     clear ho hall hl hQ
     generalize InvQ _ _ _ w0 a0 (lq.setIfInBounds 3 true) = K at hK ⊢
     clear hJ2 hS z1 z2 z3 z4 z6 z7
     go_simp
     exact hK _ _ z5 (fun _ _ h => h) rfl
   | 4, ho =>
     cases ho
     refine wpOp_of rfl rfl ?_
     have f3 : (aq.tmps.getD 64 undef) = .pointer (some ⟨A, off + c * 13 + 12, none⟩) := z6 3 64 (hall ⟨3, .data⟩ (by simp) rfl) rfl
     have hK := fun (v : Value) (W2 : World) hW hT hv => hJ2.put hS 4 65 rfl (by omega) (W' := W2) hW hT v hv
     clear ho hall hl hQ
     generalize InvQ _ _ _ w0 a0 (lq.setIfInBounds 4 true) = K at hK ⊢
     clear hJ2 hS z1 z2 z3 z4 z6 z7
     go_simp
     exact hK _ _ z5 (fun _ _ h => h) rfl
   | 5, ho =>
     cases ho
     refine wpOp_of rfl rfl ?_
     have hK := fun (v : Value) (W2 : World) hW hT hv => hJ2.put hS 5 66 rfl (by omega) (W' := W2) hW hT v hv
     clear ho hall hl hQ
     generalize InvQ _ _ _ w0 a0 (lq.setIfInBounds 5 true) = K at hK ⊢
     clear hJ2 hS z1 z2 z3 z4 z6 z7
     go_simp
     exact hK _ _ z5 (fun _ _ h => h) rfl
   | 6, ho =>
     cases ho
     refine wpOp_of rfl rfl ?_
     have f4 : (aq.tmps.getD 65 undef) = .slice (some ⟨G, ob, none⟩) m mc := z6 4 65 (hall ⟨4, .data⟩ (by simp) rfl) rfl
     have f5 : (aq.tmps.getD 66 undef) = .int .i64 (k : Int) := z6 5 66 (hall ⟨5, .data⟩ (by simp) rfl) rfl
     have hkI : (k : Int) < m := by omega
     have hmI : (m : Int) ≤ 1048576 := by omega
     have hK := fun (v : Value) (W2 : World) hW hT hv => hJ2.put hS 6 67 rfl (by omega) (W' := W2) hW hT v hv
     clear ho hall hl hQ
     generalize InvQ _ _ _ w0 a0 (lq.setIfInBounds 6 true) = K at hK ⊢
     clear hJ2 hS z1 z2 z3 z4 z6 z7
     go_simp
     exact hK _ _ z5 (fun _ _ h => h) rfl
   | 7, ho =>
     cases ho
     refine wpOp_of rfl rfl ?_
     have f6 : (aq.tmps.getD 67 undef) = .pointer (some ⟨G, ob + k, none⟩) := z6 6 67 (hall ⟨6, .data⟩ (by simp) rfl) rfl
     have hK := fun (v : Value) (W2 : World) hW hT hv => hJ2.put hS 7 68 rfl (by omega) (W' := W2) hW hT v hv
     clear ho hall hl hQ
     generalize InvQ _ _ _ w0 a0 (lq.setIfInBounds 7 true) = K at hK ⊢
     clear hJ2 hS z1 z2 z3 z4 z6 z7
     go_simp
     exact hK _ _ z5 (fun _ _ h => h) rfl
   | 8, ho =>
     cases ho
     refine wpOp_of rfl rfl ?_
     have f7 : (aq.tmps.getD 68 undef) = .int .i64 x := z6 7 68 (hall ⟨7, .data⟩ (by simp) rfl) rfl
     have hK := fun (v : Value) (W2 : World) hW hT hv => hJ2.put hS 8 69 rfl (by omega) (W' := W2) hW hT v hv
     clear ho hall hl hQ
     generalize InvQ _ _ _ w0 a0 (lq.setIfInBounds 8 true) = K at hK ⊢
     clear hJ2 hS z1 z2 z3 z4 z6 z7
     go_simp
     refine (l1In_any x 0 39 false hx W).mono ?_
     rintro e v1 ⟨rfl, hBv⟩
     exact hK _ _ (z5.trans (hBv.mono z5.size)) (fun j v h => h.mono hBv) rfl
   | 9, ho =>
     cases ho
     refine wpOp_of rfl rfl ?_
     have f8 : (aq.tmps.getD 69 undef) = .bool false := z6 8 69 (hall ⟨8, .data⟩ (by simp) rfl) rfl
     have hK := fun (v : Value) (W2 : World) hW hT hv => hJ2.put hS 9 70 rfl (by omega) (W' := W2) hW hT v hv
     clear ho hall hl hQ
     generalize InvQ _ _ _ w0 a0 (lq.setIfInBounds 9 true) = K at hK ⊢
     clear hJ2 hS z1 z2 z3 z4 z6 z7
     go_simp
     exact hK _ _ z5 (fun _ _ h => h) rfl
   | 10, ho =>
     cases ho
     refine wpOp_of rfl rfl ?_
     have f9 : (aq.tmps.getD 70 undef) = .bool true := z6 9 70 (hall ⟨9, .data⟩ (by simp) rfl) rfl
     have hK := fun (v : Value) (W2 : World) hW hT hv => hJ2.put hS 10 71 rfl (by omega) (W' := W2) hW hT v hv
     clear ho hall hl hQ
     generalize InvQ _ _ _ w0 a0 (lq.setIfInBounds 10 true) = K at hK ⊢
     clear hJ2 hS z1 z2 z3 z4 z6 z7
     go_simp
     exact hK _ _ z5 (fun _ _ h => h) rfl
   | 11, ho =>
     cases ho
     have fg : aq.tmps.getD 71 undef = .bool true := z6 10 71 (hall ⟨10, .guard⟩ (by simp) rfl) rfl
     refine wpOp_off rfl rfl rfl rfl fg ?_
     exact hJ2.put hS 11 72 rfl (by omega) z5 (fun _ _ h => h) undef rfl
   | 12, ho =>
     cases ho
     have fg : aq.tmps.getD 71 undef = .bool true := z6 10 71 (hall ⟨10, .guard⟩ (by simp) rfl) rfl
     refine wpOp_off rfl rfl rfl rfl fg ?_
     exact hJ2.put hS 12 73 rfl (by omega) z5 (fun _ _ h => h) undef rfl
   | 13, ho =>
     cases ho
     have fg : aq.tmps.getD 71 undef = .bool true := z6 10 71 (hall ⟨10, .guard⟩ (by simp) rfl) rfl
     refine wpOp_off rfl rfl rfl rfl fg ?_
     exact hJ2.put hS 13 74 rfl (by omega) z5 (fun _ _ h => h) undef rfl
   | 14, ho =>
     cases ho
     have fg : aq.tmps.getD 74 undef = undef := z6 13 74 (hall ⟨13, .guard⟩ (by simp) rfl) rfl
     refine wpOp_offu rfl rfl rfl rfl fg ?_
     exact hJ2.put hS 14 75 rfl (by omega) z5 (fun _ _ h => h) undef rfl
   | 15, ho =>
     cases ho
     have fg : aq.tmps.getD 74 undef = undef := z6 13 74 (hall ⟨13, .guard⟩ (by simp) rfl) rfl
     refine wpOp_offu rfl rfl rfl rfl fg ?_
     exact hJ2.put hS 15 76 rfl (by omega) z5 (fun _ _ h => h) undef rfl
   | 16, ho =>
     cases ho
     have fg : aq.tmps.getD 74 undef = undef := z6 13 74 (hall ⟨13, .guard⟩ (by simp) rfl) rfl
     refine wpOp_offu rfl rfl rfl rfl fg ?_
     exact hJ2.put hS 16 77 rfl (by omega) z5 (fun _ _ h => h) undef rfl
   | 17, ho =>
     cases ho
     have fg : aq.tmps.getD 74 undef = undef := z6 13 74 (hall ⟨13, .guard⟩ (by simp) rfl) rfl
     refine wpOp_offu rfl rfl rfl rfl fg ?_
     exact hJ2.put hS 17 78 rfl (by omega) z5 (fun _ _ h => h) undef rfl
   | 18, ho =>
     cases ho
     have fg : aq.tmps.getD 74 undef = undef := z6 13 74 (hall ⟨13, .guard⟩ (by simp) rfl) rfl
     refine wpOp_offu rfl rfl rfl rfl fg ?_
     exact hJ2.put hS 18 79 rfl (by omega) z5 (fun _ _ h => h) undef rfl
   | 19, ho =>
     cases ho
     have fg : aq.tmps.getD 74 undef = undef := z6 13 74 (hall ⟨13, .guard⟩ (by simp) rfl) rfl
     refine wpOp_offu rfl rfl rfl rfl fg ?_
     exact hJ2.put hS 19 80 rfl (by omega) z5 (fun _ _ h => h) undef rfl
   | 20, ho =>
     cases ho
     have fg : aq.tmps.getD 74 undef = undef := z6 13 74 (hall ⟨13, .guard⟩ (by simp) rfl) rfl
     refine wpOp_offu rfl rfl rfl rfl fg ?_
     exact hJ2.put hS 20 81 rfl (by omega) z5 (fun _ _ h => h) undef rfl
   | 21, ho =>
     cases ho
     have fg : aq.tmps.getD 74 undef = undef := z6 13 74 (hall ⟨13, .guard⟩ (by simp) rfl) rfl
     refine wpOp_offu rfl rfl rfl rfl fg ?_
     exact hJ2.put hS 21 82 rfl (by omega) z5 (fun _ _ h => h) undef rfl
   | 22, ho =>
     cases ho
     have fg : aq.tmps.getD 74 undef = undef := z6 13 74 (hall ⟨13, .guard⟩ (by simp) rfl) rfl
     refine wpOp_offu rfl rfl rfl rfl fg ?_
     exact hJ2.put hS 22 83 rfl (by omega) z5 (fun _ _ h => h) undef rfl
   | 23, ho =>
     cases ho
     have fg : aq.tmps.getD 74 undef = undef := z6 13 74 (hall ⟨13, .guard⟩ (by simp) rfl) rfl
     refine wpOp_offu rfl rfl rfl rfl fg ?_
     exact hJ2.put hS 23 84 rfl (by omega) z5 (fun _ _ h => h) undef rfl
   | 24, ho =>
     cases ho
     have fg : aq.tmps.getD 74 undef = undef := z6 13 74 (hall ⟨13, .guard⟩ (by simp) rfl) rfl
     refine wpOp_offu rfl rfl rfl rfl fg ?_
     exact hJ2.put hS 24 85 rfl (by omega) z5 (fun _ _ h => h) undef rfl
   | 25, ho =>
     cases ho
     have fg : aq.tmps.getD 74 undef = undef := z6 13 74 (hall ⟨13, .guard⟩ (by simp) rfl) rfl
     refine wpOp_offu rfl rfl rfl rfl fg ?_
     exact hJ2.put hS 25 86 rfl (by omega) z5 (fun _ _ h => h) undef rfl
   | 26, ho =>
     cases ho
     have fg : aq.tmps.getD 74 undef = undef := z6 13 74 (hall ⟨13, .guard⟩ (by simp) rfl) rfl
     refine wpOp_offu rfl rfl rfl rfl fg ?_
     exact hJ2.put hS 26 87 rfl (by omega) z5 (fun _ _ h => h) undef rfl
   | 27, ho =>
     cases ho
     have fg : aq.tmps.getD 74 undef = undef := z6 13 74 (hall ⟨13, .guard⟩ (by simp) rfl) rfl
     refine wpOp_offu rfl rfl rfl rfl fg ?_
     exact hJ2.put hS 27 88 rfl (by omega) z5 (fun _ _ h => h) undef rfl
   | 28, ho =>
     cases ho
     have fg : aq.tmps.getD 74 undef = undef := z6 13 74 (hall ⟨13, .guard⟩ (by simp) rfl) rfl
     refine wpOp_offu rfl rfl rfl rfl fg ?_
     exact hJ2.put hS 28 89 rfl (by omega) z5 (fun _ _ h => h) undef rfl
   | 29, ho =>
     cases ho
     have fg : aq.tmps.getD 74 undef = undef := z6 13 74 (hall ⟨13, .guard⟩ (by simp) rfl) rfl
     refine wpOp_offu rfl rfl rfl rfl fg ?_
     exact hJ2.put hS 29 90 rfl (by omega) z5 (fun _ _ h => h) undef rfl
   | 30, ho =>
     cases ho
     have fg : aq.tmps.getD 74 undef = undef := z6 13 74 (hall ⟨13, .guard⟩ (by simp) rfl) rfl
     refine wpOp_offu rfl rfl rfl rfl fg ?_
     exact hJ2.put hS 30 91 rfl (by omega) z5 (fun _ _ h => h) undef rfl
   | 31, ho =>
     cases ho
     have fg : aq.tmps.getD 74 undef = undef := z6 13 74 (hall ⟨13, .guard⟩ (by simp) rfl) rfl
     refine wpOp_offu rfl rfl rfl rfl fg ?_
     exact hJ2.put hS 31 92 rfl (by omega) z5 (fun _ _ h => h) undef rfl
   | 32, ho =>
     cases ho
     have fg : aq.tmps.getD 71 undef = .bool true := z6 10 71 (hall ⟨10, .guard⟩ (by simp) rfl) rfl
     refine wpOp_off rfl rfl rfl rfl fg ?_
     exact hJ2.put hS 32 93 rfl (by omega) z5 (fun _ _ h => h) undef rfl
   | 33, ho =>
     cases ho
     refine wpOp_of rfl rfl ?_
     have f10 : (aq.tmps.getD 71 undef) = .bool true := z6 10 71 (hall ⟨10, .data⟩ (by simp) rfl) rfl
     have f32 : (aq.tmps.getD 93 undef) = undef := z6 32 93 (hall ⟨32, .data⟩ (by simp) rfl) rfl
     have hK := fun (v : Value) (W2 : World) hW hT hv => hJ2.put hS 33 94 rfl (by omega) (W' := W2) hW hT v hv
     clear ho hall hl hQ
     generalize InvQ _ _ _ w0 a0 (lq.setIfInBounds 33 true) = K at hK ⊢
     clear hJ2 hS z1 z2 z3 z4 z6 z7
     go_simp
     exact hK _ _ z5 (fun _ _ h => h) rfl
   | iq + 34, ho => simp at ho
 · intro lq aq W hJ hr
   obtain ⟨z1, z2, z3, z4, z5, z6, z7⟩ := hJ
   have hl := listed_of hr [0, 1, 2, 3, 4, 5, 6, 7, 8, 9, 10, 11, 12, 13, 14, 15, 16, 17, 18, 19, 20, 21, 22, 23, 24, 25, 26, 27, 28, 29, 30, 31, 32, 33] [] (by simp) (by kernel_rfl) (by rw [z1]; decide)
   exact hQ aq W z2 z3 (fun e he => z4 e (by simpa using he)) (z6 33 94 (hl 33 (by simp)) rfl) z5
def VevN_C (n cap A off c m mc G ob k : Nat) (x : Int) (_B : Nat) : Nat → Value → World → Prop
 | 0, v, _ => v = .slice (some ⟨A, off, none⟩) n cap
 | 1, v, _ => v = .int .i64 (c : Int)
 | 2, v, _ => v = .pointer (some ⟨A, off + c * 13, none⟩)
 | 3, v, _ => v = .pointer (some ⟨A, off + c * 13 + 12, none⟩)
 | 4, v, _ => v = .slice (some ⟨G, ob, none⟩) m mc
 | 5, v, _ => v = .int .i64 (k : Int)
 | 6, v, _ => v = .pointer (some ⟨G, ob + k, none⟩)
 | 7, v, _ => v = .int .i64 x
 | 8, v, _ => v = .bool true
 | 9, v, _ => v = .bool false
 | 10, v, _ => v = .bool false
 | 11, v, _ => v = .int .i64 (k : Int)
 | 12, v, _ => v = .bool false
 | 13, v, _ => v = .bool false
 | 14, v, _ => v = undef
 | 15, v, _ => v = undef
 | 16, v, _ => v = undef
 | 17, v, _ => v = undef
 | 18, v, _ => v = undef
 | 19, v, _ => v = undef
 | 20, v, _ => v = undef
 | 21, v, _ => v = undef
 | 22, v, _ => v = undef
 | 23, v, _ => v = undef
 | 24, v, _ => v = undef
 | 25, v, _ => v = undef
 | 26, v, _ => v = undef
 | 27, v, _ => v = undef
 | 28, v, _ => v = undef
 | 29, v, _ => v = undef
 | 30, v, _ => v = undef
 | 31, v, _ => v = undef
 | 32, v, _ => v = .bool false
 | 33, v, _ => v = .bool false
 | _, _, _ => True
theorem VevN_C.mono {n cap A off c m mc G ob k : Nat} {x : Int} {B j : Nat} {v : Value} {W W2 : World} (_hB : Below W.heap.size W W2) (h : VevN_C n cap A off c m mc G ob k x B j v W) : VevN_C n cap A off c m mc G ob k x B j v W2 := by
 unfold VevN_C at *
 split <;> simp only at h <;> first | exact h | trivial
theorem evN_C {Q : Exit → Act → World → Prop} {n cap A off c m mc G ob k : Nat} {x : Int}  {w0 : World} {a0 : Act} {idq : Nat} {t0 t1 t2 t3 t4 t5 t6 t7 t8 t9 t10 t11 t12 t13 t14 t15 t16 t17 t18 t19 t20 t21 t22 t23 t24 t25 t26 t27 t28 t29 t30 t31 t32 t33 : TypeId} {q0 q1 q2 q3 q4 q5 q6 q7 q8 q9 q10 q11 q12 q13 q14 q15 q16 q17 q18 q19 q20 q21 q22 q23 q24 q25 q26 q27 q28 q29 q30 q31 q32 q33 : String}
   (hc : c < n) (hn : n ≤ 200) (hk : k < m) (hm : m ≤ 1048576) (hx : decide (0 ≤ x ∧ x ≤ 39) = true) (hk0 : Hid (k = 0)) (h0 : a0.tmps[0]? = some (.slice (some ⟨A, off, none⟩) n cap)) (h3 : a0.tmps[3]? = some (.int .i64 (c : Int))) (h4 : a0.tmps[4]? = some (.int .i64 (k : Int))) (k0 : w0.cell? ⟨A, off + c * 13 + 12, none⟩ = some (.slice (some ⟨G, ob, none⟩) m mc)) (l0 : (⟨A, off + c * 13 + 12, none⟩ : Addr).block < w0.heap.size) (k1 : w0.cell? ⟨G, ob + k, none⟩ = some (.int .i64 x)) (l1 : (⟨G, ob + k, none⟩ : Addr).block < w0.heap.size) (hz : a0.tmps.size = 95)
   (hQ : ∀ aq W, aq.tmps.size = a0.tmps.size → aq.defers = a0.defers → (∀ e, e ∉ ([61, 62, 63, 64, 65, 66, 67, 68, 69, 70, 71, 72, 73, 74, 75, 76, 77, 78, 79, 80, 81, 82, 83, 84, 85, 86, 87, 88, 89, 90, 91, 92, 93, 94] : List Nat) → aq.tmps[e]? = a0.tmps[e]?) → VevN_C n cap A off c m mc G ob k x w0.heap.size 33 (aq.tmps.getD 94 undef) W → Below w0.heap.size w0 W → Q .normal aq W) :
   (Code.region idq #[{ dst := some 61, op := Op.move (.tmp 0), type := t0, pos := q0, after := #[], guard := none },
   { dst := some 62, op := Op.move (.tmp 3), type := t1, pos := q1, after := #[], guard := none },
   { dst := some 63, op := Op.indexAddr 44 (.tmp 61) (.tmp 62), type := t2, pos := q2, after := #[⟨0, .data⟩, ⟨1, .data⟩], guard := none },
   { dst := some 64, op := Op.fieldAddr 81 (.tmp 63) 1, type := t3, pos := q3, after := #[⟨2, .data⟩], guard := none },
   { dst := some 65, op := Op.load 29 (.tmp 64), type := t4, pos := q4, after := #[⟨3, .data⟩], guard := none },
   { dst := some 66, op := Op.move (.tmp 4), type := t5, pos := q5, after := #[], guard := none },
   { dst := some 67, op := Op.indexAddr 29 (.tmp 65) (.tmp 66), type := t6, pos := q6, after := #[⟨4, .data⟩, ⟨5, .data⟩], guard := none },
   { dst := some 68, op := Op.load 2 (.tmp 67), type := t7, pos := q7, after := #[⟨6, .data⟩], guard := none },
   { dst := some 69, op := Op.call { callee := Callee.value (Operand.func 34), args := #[.tmp 68, Operand.const (Value.int IntKind.i64 0), Operand.const (Value.int IntKind.i64 39)], argTypes := #[2, 2, 2] }, type := t8, pos := q8, after := #[⟨7, .data⟩], guard := none },
   { dst := some 70, op := Op.unOp UnOp.not 4 (.tmp 69), type := t9, pos := q9, after := #[⟨8, .data⟩], guard := none },
   { dst := some 71, op := Op.move (.tmp 70), type := t10, pos := q10, after := #[⟨9, .data⟩, ⟨8, .chain⟩], guard := none },
   { dst := some 72, op := Op.move (.tmp 4), type := t11, pos := q11, after := #[⟨10, .guard⟩], guard := some (10, false) },
   { dst := some 73, op := Op.binOp BinOp.gtr 3 (.tmp 72) (Operand.const (Value.int IntKind.i64 0)) 3, type := t12, pos := q12, after := #[⟨11, .data⟩, ⟨10, .guard⟩], guard := some (10, false) },
   { dst := some 74, op := Op.move (.tmp 73), type := t13, pos := q13, after := #[⟨12, .data⟩, ⟨10, .chain⟩, ⟨10, .guard⟩], guard := some (10, false) },
   { dst := some 75, op := Op.move (.tmp 0), type := t14, pos := q14, after := #[⟨13, .guard⟩], guard := some (13, true) },
   { dst := some 76, op := Op.move (.tmp 3), type := t15, pos := q15, after := #[⟨13, .guard⟩], guard := some (13, true) },
   { dst := some 77, op := Op.indexAddr 44 (.tmp 75) (.tmp 76), type := t16, pos := q16, after := #[⟨14, .data⟩, ⟨15, .data⟩, ⟨13, .guard⟩], guard := some (13, true) },
   { dst := some 78, op := Op.fieldAddr 81 (.tmp 77) 1, type := t17, pos := q17, after := #[⟨16, .data⟩, ⟨13, .guard⟩], guard := some (13, true) },
   { dst := some 79, op := Op.load 29 (.tmp 78), type := t18, pos := q18, after := #[⟨17, .data⟩, ⟨13, .guard⟩], guard := some (13, true) },
   { dst := some 80, op := Op.move (.tmp 4), type := t19, pos := q19, after := #[⟨13, .guard⟩], guard := some (13, true) },
   { dst := some 81, op := Op.binOp BinOp.sub 3 (.tmp 80) (Operand.const (Value.int IntKind.i64 1)) 3, type := t20, pos := q20, after := #[⟨19, .data⟩, ⟨13, .guard⟩], guard := some (13, true) },
   { dst := some 82, op := Op.indexAddr 29 (.tmp 79) (.tmp 81), type := t21, pos := q21, after := #[⟨18, .data⟩, ⟨20, .data⟩, ⟨13, .guard⟩], guard := some (13, true) },
   { dst := some 83, op := Op.load 2 (.tmp 82), type := t22, pos := q22, after := #[⟨21, .data⟩, ⟨13, .guard⟩], guard := some (13, true) },
   { dst := some 84, op := Op.move (.tmp 0), type := t23, pos := q23, after := #[⟨13, .guard⟩], guard := some (13, true) },
   { dst := some 85, op := Op.move (.tmp 3), type := t24, pos := q24, after := #[⟨13, .guard⟩], guard := some (13, true) },
   { dst := some 86, op := Op.indexAddr 44 (.tmp 84) (.tmp 85), type := t25, pos := q25, after := #[⟨23, .data⟩, ⟨24, .data⟩, ⟨13, .guard⟩], guard := some (13, true) },
   { dst := some 87, op := Op.fieldAddr 81 (.tmp 86) 1, type := t26, pos := q26, after := #[⟨25, .data⟩, ⟨13, .guard⟩], guard := some (13, true) },
   { dst := some 88, op := Op.load 29 (.tmp 87), type := t27, pos := q27, after := #[⟨26, .data⟩, ⟨13, .guard⟩], guard := some (13, true) },
   { dst := some 89, op := Op.move (.tmp 4), type := t28, pos := q28, after := #[⟨13, .guard⟩], guard := some (13, true) },
   { dst := some 90, op := Op.indexAddr 29 (.tmp 88) (.tmp 89), type := t29, pos := q29, after := #[⟨27, .data⟩, ⟨28, .data⟩, ⟨13, .guard⟩], guard := some (13, true) },
   { dst := some 91, op := Op.load 2 (.tmp 90), type := t30, pos := q30, after := #[⟨29, .data⟩, ⟨13, .guard⟩], guard := some (13, true) },
   { dst := some 92, op := Op.binOp BinOp.geq 2 (.tmp 83) (.tmp 91) 2, type := t31, pos := q31, after := #[⟨22, .data⟩, ⟨30, .data⟩, ⟨13, .guard⟩], guard := some (13, true) },
   { dst := some 93, op := Op.pick (.tmp 74) (.tmp 92) (Operand.const (Value.bool false)), type := t32, pos := q32, after := #[⟨13, .data⟩, ⟨31, .data⟩, ⟨10, .guard⟩], guard := some (10, false) },
   { dst := some 94, op := Op.pick (.tmp 71) (Operand.const (Value.bool true)) (.tmp 93), type := t33, pos := q33, after := #[⟨10, .data⟩, ⟨32, .data⟩], guard := none }] true).wp Tryz.prog Q a0 w0 := by
 have hS : distS [some 61, some 62, some 63, some 64, some 65, some 66, some 67, some 68, some 69, some 70, some 71, some 72, some 73, some 74, some 75, some 76, some 77, some 78, some 79, some 80, some 81, some 82, some 83, some 84, some 85, some 86, some 87, some 88, some 89, some 90, some 91, some 92, some 93, some 94] = true := rfl
 refine wp_region_q (by kernel_rfl) w0.heap.size [some 61, some 62, some 63, some 64, some 65, some 66, some 67, some 68, some 69, some 70, some 71, some 72, some 73, some 74, some 75, some 76, some 77, some 78, some 79, some 80, some 81, some 82, some 83, some 84, some 85, some 86, some 87, some 88, some 89, some 90, some 91, some 92, some 93, some 94] (VevN_C n cap A off c m mc G ob k x w0.heap.size) rfl ?_ ?_
 · intro Q lq aq W iq oq hJ hl ho hall
   have hJ2 := hJ
   obtain ⟨z1, z2, z3, z4, z5, z6, z7⟩ := hJ
   have g0 : aq.tmps.getD 0 undef = .slice (some ⟨A, off, none⟩) n cap := by rw [Array.getD_eq_getD_getElem?, z4 0 (by decide), h0]; rfl
   have g3 : aq.tmps.getD 3 undef = .int .i64 (c : Int) := by rw [Array.getD_eq_getD_getElem?, z4 3 (by decide), h3]; rfl
   have g4 : aq.tmps.getD 4 undef = .int .i64 (k : Int) := by rw [Array.getD_eq_getD_getElem?, z4 4 (by decide), h4]; rfl
   have c0 : W.cell? ⟨A, off + c * 13 + 12, none⟩ = some (.slice (some ⟨G, ob, none⟩) m mc) := (z5.cell l0).trans k0
   have c1 : W.cell? ⟨G, ob + k, none⟩ = some (.int .i64 x) := (z5.cell l1).trans k1
   match iq, ho with
   | 0, ho =>
     cases ho
     refine wpOp_of rfl rfl ?_
     have hK := fun (v : Value) (W2 : World) hW hT hv => hJ2.put hS 0 61 rfl (by omega) (W' := W2) hW hT v hv
     clear ho hall hl hQ
     generalize InvQ _ _ _ w0 a0 (lq.setIfInBounds 0 true) = K at hK ⊢
     clear hJ2 hS z1 z2 z3 z4 z6 z7
     go_simp
     exact hK _ _ z5 (fun _ _ h => h) rfl
   | 1, ho =>
     cases ho
     refine wpOp_of rfl rfl ?_
     have hK := fun (v : Value) (W2 : World) hW hT hv => hJ2.put hS 1 62 rfl (by omega) (W' := W2) hW hT v hv
     clear ho hall hl hQ
     generalize InvQ _ _ _ w0 a0 (lq.setIfInBounds 1 true) = K at hK ⊢
     clear hJ2 hS z1 z2 z3 z4 z6 z7
     go_simp
     exact hK _ _ z5 (fun _ _ h => h) rfl
   | 2, ho =>
     cases ho
     refine wpOp_of rfl rfl ?_
     have f0 : (aq.tmps.getD 61 undef) = .slice (some ⟨A, off, none⟩) n cap := z6 0 61 (hall ⟨0, .data⟩ (by simp) rfl) rfl
     have f1 : (aq.tmps.getD 62 undef) = .int .i64 (c : Int) := z6 1 62 (hall ⟨1, .data⟩ (by simp) rfl) rfl
     have hcI : (c : Int) < n := by omega
     have hnI : (n : Int) ≤ 200 := by omega
     have hK := fun (v : Value) (W2 : World) hW hT hv => hJ2.put hS 2 63 rfl (by omega) (W' := W2) hW hT v hv
     clear ho hall hl hQ
     generalize InvQ _ _ _ w0 a0 (lq.setIfInBounds 2 true) = K at hK ⊢
     clear hJ2 hS z1 z2 z3 z4 z6 z7
     go_simp
     exact hK _ _ z5 (fun _ _ h => h) rfl
   | 3, ho =>
     cases ho
     refine wpOp_of rfl rfl ?_
     have f2 : (aq.tmps.getD 63 undef) = .pointer (some ⟨A, off + c * 13, none⟩) := z6 2 63 (hall ⟨2, .data⟩ (by simp) rfl) rfl
     have hK := fun (v : Value) (W2 : World) hW hT hv => hJ2.put hS 3 64 rfl (by omega) (W' := W2) hW hT v hv
     clear ho hall hl hQ
     generalize InvQ _ _ _ w0 a0 (lq.setIfInBounds 3 true) = K at hK ⊢
     clear hJ2 hS z1 z2 z3 z4 z6 z7
     go_simp
     exact hK _ _ z5 (fun _ _ h => h) rfl
   | 4, ho =>
     cases ho
     refine wpOp_of rfl rfl ?_
     have f3 : (aq.tmps.getD 64 undef) = .pointer (some ⟨A, off + c * 13 + 12, none⟩) := z6 3 64 (hall ⟨3, .data⟩ (by simp) rfl) rfl
     have hK := fun (v : Value) (W2 : World) hW hT hv => hJ2.put hS 4 65 rfl (by omega) (W' := W2) hW hT v hv
     clear ho hall hl hQ
     generalize InvQ _ _ _ w0 a0 (lq.setIfInBounds 4 true) = K at hK ⊢
     clear hJ2 hS z1 z2 z3 z4 z6 z7
     go_simp
     exact hK _ _ z5 (fun _ _ h => h) rfl
   | 5, ho =>
     cases ho
     refine wpOp_of rfl rfl ?_
     have hK := fun (v : Value) (W2 : World) hW hT hv => hJ2.put hS 5 66 rfl (by omega) (W' := W2) hW hT v hv
     clear ho hall hl hQ
     generalize InvQ _ _ _ w0 a0 (lq.setIfInBounds 5 true) = K at hK ⊢
     clear hJ2 hS z1 z2 z3 z4 z6 z7
     go_simp
     exact hK _ _ z5 (fun _ _ h => h) rfl
   | 6, ho =>
     cases ho
     refine wpOp_of rfl rfl ?_
     have f4 : (aq.tmps.getD 65 undef) = .slice (some ⟨G, ob, none⟩) m mc := z6 4 65 (hall ⟨4, .data⟩ (by simp) rfl) rfl
     have f5 : (aq.tmps.getD 66 undef) = .int .i64 (k : Int) := z6 5 66 (hall ⟨5, .data⟩ (by simp) rfl) rfl
     have hkI : (k : Int) < m := by omega
     have hmI : (m : Int) ≤ 1048576 := by omega
     have hK := fun (v : Value) (W2 : World) hW hT hv => hJ2.put hS 6 67 rfl (by omega) (W' := W2) hW hT v hv
     clear ho hall hl hQ
     generalize InvQ _ _ _ w0 a0 (lq.setIfInBounds 6 true) = K at hK ⊢
     clear hJ2 hS z1 z2 z3 z4 z6 z7
     go_simp
     exact hK _ _ z5 (fun _ _ h => h) rfl
   | 7, ho =>
     cases ho
     refine wpOp_of rfl rfl ?_
     have f6 : (aq.tmps.getD 67 undef) = .pointer (some ⟨G, ob + k, none⟩) := z6 6 67 (hall ⟨6, .data⟩ (by simp) rfl) rfl
     have hK := fun (v : Value) (W2 : World) hW hT hv => hJ2.put hS 7 68 rfl (by omega) (W' := W2) hW hT v hv
     clear ho hall hl hQ
     generalize InvQ _ _ _ w0 a0 (lq.setIfInBounds 7 true) = K at hK ⊢
     clear hJ2 hS z1 z2 z3 z4 z6 z7
     go_simp
     exact hK _ _ z5 (fun _ _ h => h) rfl
   | 8, ho =>
     cases ho
     refine wpOp_of rfl rfl ?_
     have f7 : (aq.tmps.getD 68 undef) = .int .i64 x := z6 7 68 (hall ⟨7, .data⟩ (by simp) rfl) rfl
     have hK := fun (v : Value) (W2 : World) hW hT hv => hJ2.put hS 8 69 rfl (by omega) (W' := W2) hW hT v hv
     clear ho hall hl hQ
     generalize InvQ _ _ _ w0 a0 (lq.setIfInBounds 8 true) = K at hK ⊢
     clear hJ2 hS z1 z2 z3 z4 z6 z7
     go_simp
     refine (l1In_any x 0 39 true hx W).mono ?_
     rintro e v1 ⟨rfl, hBv⟩
     exact hK _ _ (z5.trans (hBv.mono z5.size)) (fun j v h => h.mono hBv) rfl
   | 9, ho =>
     cases ho
     refine wpOp_of rfl rfl ?_
     have f8 : (aq.tmps.getD 69 undef) = .bool true := z6 8 69 (hall ⟨8, .data⟩ (by simp) rfl) rfl
     have hK := fun (v : Value) (W2 : World) hW hT hv => hJ2.put hS 9 70 rfl (by omega) (W' := W2) hW hT v hv
     clear ho hall hl hQ
     generalize InvQ _ _ _ w0 a0 (lq.setIfInBounds 9 true) = K at hK ⊢
     clear hJ2 hS z1 z2 z3 z4 z6 z7
     go_simp
     exact hK _ _ z5 (fun _ _ h => h) rfl
   | 10, ho =>
     cases ho
     refine wpOp_of rfl rfl ?_
     have f9 : (aq.tmps.getD 70 undef) = .bool false := z6 9 70 (hall ⟨9, .data⟩ (by simp) rfl) rfl
     have hK := fun (v : Value) (W2 : World) hW hT hv => hJ2.put hS 10 71 rfl (by omega) (W' := W2) hW hT v hv
     clear ho hall hl hQ
     generalize InvQ _ _ _ w0 a0 (lq.setIfInBounds 10 true) = K at hK ⊢
     clear hJ2 hS z1 z2 z3 z4 z6 z7
     go_simp
     exact hK _ _ z5 (fun _ _ h => h) rfl
   | 11, ho =>
     cases ho
     have fg : aq.tmps.getD 71 undef = .bool false := z6 10 71 (hall ⟨10, .guard⟩ (by simp) rfl) rfl
     refine wpOp_on rfl rfl rfl rfl fg ?_
     have hK := fun (v : Value) (W2 : World) hW hT hv => hJ2.put hS 11 72 rfl (by omega) (W' := W2) hW hT v hv
     clear ho hall hl hQ
     generalize InvQ _ _ _ w0 a0 (lq.setIfInBounds 11 true) = K at hK ⊢
     clear hJ2 hS z1 z2 z3 z4 z6 z7
     go_simp
     exact hK _ _ z5 (fun _ _ h => h) rfl
   | 12, ho =>
     cases ho
     have fg : aq.tmps.getD 71 undef = .bool false := z6 10 71 (hall ⟨10, .guard⟩ (by simp) rfl) rfl
     refine wpOp_on rfl rfl rfl rfl fg ?_
     have f11 : (aq.tmps.getD 72 undef) = .int .i64 (k : Int) := z6 11 72 (hall ⟨11, .data⟩ (by simp) rfl) rfl
     have hgt : (k : Int) ≤ 0 := by have ho := hk0.out; omega
     have hK := fun (v : Value) (W2 : World) hW hT hv => hJ2.put hS 12 73 rfl (by omega) (W' := W2) hW hT v hv
     clear ho hall hl hQ
     generalize InvQ _ _ _ w0 a0 (lq.setIfInBounds 12 true) = K at hK ⊢
     clear hJ2 hS z1 z2 z3 z4 z6 z7
     go_simp
     exact hK _ _ z5 (fun _ _ h => h) (by show _ = _; exact congrArg Value.bool (decide_eq_false (by omega)))
   | 13, ho =>
     cases ho
     have fg : aq.tmps.getD 71 undef = .bool false := z6 10 71 (hall ⟨10, .guard⟩ (by simp) rfl) rfl
     refine wpOp_on rfl rfl rfl rfl fg ?_
     have f12 : (aq.tmps.getD 73 undef) = .bool false := z6 12 73 (hall ⟨12, .data⟩ (by simp) rfl) rfl
     have hK := fun (v : Value) (W2 : World) hW hT hv => hJ2.put hS 13 74 rfl (by omega) (W' := W2) hW hT v hv
     clear ho hall hl hQ
     generalize InvQ _ _ _ w0 a0 (lq.setIfInBounds 13 true) = K at hK ⊢
     clear hJ2 hS z1 z2 z3 z4 z6 z7
     go_simp
     exact hK _ _ z5 (fun _ _ h => h) rfl
   | 14, ho =>
     cases ho
     have fg : aq.tmps.getD 74 undef = .bool false := z6 13 74 (hall ⟨13, .guard⟩ (by simp) rfl) rfl
     refine wpOp_off rfl rfl rfl rfl fg ?_
     exact hJ2.put hS 14 75 rfl (by omega) z5 (fun _ _ h => h) undef rfl
   | 15, ho =>
     cases ho
     have fg : aq.tmps.getD 74 undef = .bool false := z6 13 74 (hall ⟨13, .guard⟩ (by simp) rfl) rfl
     refine wpOp_off rfl rfl rfl rfl fg ?_
     exact hJ2.put hS 15 76 rfl (by omega) z5 (fun _ _ h => h) undef rfl
   | 16, ho =>
     cases ho
     have fg : aq.tmps.getD 74 undef = .bool false := z6 13 74 (hall ⟨13, .guard⟩ (by simp) rfl) rfl
     refine wpOp_off rfl rfl rfl rfl fg ?_
     exact hJ2.put hS 16 77 rfl (by omega) z5 (fun _ _ h => h) undef rfl
   | 17, ho =>
     cases ho
     have fg : aq.tmps.getD 74 undef = .bool false := z6 13 74 (hall ⟨13, .guard⟩ (by simp) rfl) rfl
     refine wpOp_off rfl rfl rfl rfl fg ?_
     exact hJ2.put hS 17 78 rfl (by omega) z5 (fun _ _ h => h) undef rfl
   | 18, ho =>
     cases ho
     have fg : aq.tmps.getD 74 undef = .bool false := z6 13 74 (hall ⟨13, .guard⟩ (by simp) rfl) rfl
     refine wpOp_off rfl rfl rfl rfl fg ?_
     exact hJ2.put hS 18 79 rfl (by omega) z5 (fun _ _ h => h) undef rfl
   | 19, ho =>
     cases ho
     have fg : aq.tmps.getD 74 undef = .bool false := z6 13 74 (hall ⟨13, .guard⟩ (by simp) rfl) rfl
     refine wpOp_off rfl rfl rfl rfl fg ?_
     exact hJ2.put hS 19 80 rfl (by omega) z5 (fun _ _ h => h) undef rfl
   | 20, ho =>
     cases ho
     have fg : aq.tmps.getD 74 undef = .bool false := z6 13 74 (hall ⟨13, .guard⟩ (by simp) rfl) rfl
     refine wpOp_off rfl rfl rfl rfl fg ?_
     exact hJ2.put hS 20 81 rfl (by omega) z5 (fun _ _ h => h) undef rfl
   | 21, ho =>
     cases ho
     have fg : aq.tmps.getD 74 undef = .bool false := z6 13 74 (hall ⟨13, .guard⟩ (by simp) rfl) rfl
     refine wpOp_off rfl rfl rfl rfl fg ?_
     exact hJ2.put hS 21 82 rfl (by omega) z5 (fun _ _ h => h) undef rfl
   | 22, ho =>
     cases ho
     have fg : aq.tmps.getD 74 undef = .bool false := z6 13 74 (hall ⟨13, .guard⟩ (by simp) rfl) rfl
     refine wpOp_off rfl rfl rfl rfl fg ?_
     exact hJ2.put hS 22 83 rfl (by omega) z5 (fun _ _ h => h) undef rfl
   | 23, ho =>
     cases ho
     have fg : aq.tmps.getD 74 undef = .bool false := z6 13 74 (hall ⟨13, .guard⟩ (by simp) rfl) rfl
     refine wpOp_off rfl rfl rfl rfl fg ?_
     exact hJ2.put hS 23 84 rfl (by omega) z5 (fun _ _ h => h) undef rfl
   | 24, ho =>
     cases ho
     have fg : aq.tmps.getD 74 undef = .bool false := z6 13 74 (hall ⟨13, .guard⟩ (by simp) rfl) rfl
     refine wpOp_off rfl rfl rfl rfl fg ?_
     exact hJ2.put hS 24 85 rfl (by omega) z5 (fun _ _ h => h) undef rfl
   | 25, ho =>
     cases ho
     have fg : aq.tmps.getD 74 undef = .bool false := z6 13 74 (hall ⟨13, .guard⟩ (by simp) rfl) rfl
     refine wpOp_off rfl rfl rfl rfl fg ?_
     exact hJ2.put hS 25 86 rfl (by omega) z5 (fun _ _ h => h) undef rfl
   | 26, ho =>
     cases ho
     have fg : aq.tmps.getD 74 undef = .bool false := z6 13 74 (hall ⟨13, .guard⟩ (by simp) rfl) rfl
     refine wpOp_off rfl rfl rfl rfl fg ?_
     exact hJ2.put hS 26 87 rfl (by omega) z5 (fun _ _ h => h) undef rfl
   | 27, ho =>
     cases ho
     have fg : aq.tmps.getD 74 undef = .bool false := z6 13 74 (hall ⟨13, .guard⟩ (by simp) rfl) rfl
     refine wpOp_off rfl rfl rfl rfl fg ?_
     exact hJ2.put hS 27 88 rfl (by omega) z5 (fun _ _ h => h) undef rfl
   | 28, ho =>
     cases ho
     have fg : aq.tmps.getD 74 undef = .bool false := z6 13 74 (hall ⟨13, .guard⟩ (by simp) rfl) rfl
     refine wpOp_off rfl rfl rfl rfl fg ?_
     exact hJ2.put hS 28 89 rfl (by omega) z5 (fun _ _ h => h) undef rfl
   | 29, ho =>
     cases ho
     have fg : aq.tmps.getD 74 undef = .bool false := z6 13 74 (hall ⟨13, .guard⟩ (by simp) rfl) rfl
     refine wpOp_off rfl rfl rfl rfl fg ?_
     exact hJ2.put hS 29 90 rfl (by omega) z5 (fun _ _ h => h) undef rfl
   | 30, ho =>
     cases ho
     have fg : aq.tmps.getD 74 undef = .bool false := z6 13 74 (hall ⟨13, .guard⟩ (by simp) rfl) rfl
     refine wpOp_off rfl rfl rfl rfl fg ?_
     exact hJ2.put hS 30 91 rfl (by omega) z5 (fun _ _ h => h) undef rfl
   | 31, ho =>
     cases ho
     have fg : aq.tmps.getD 74 undef = .bool false := z6 13 74 (hall ⟨13, .guard⟩ (by simp) rfl) rfl
     refine wpOp_off rfl rfl rfl rfl fg ?_
     exact hJ2.put hS 31 92 rfl (by omega) z5 (fun _ _ h => h) undef rfl
   | 32, ho =>
     cases ho
     have fg : aq.tmps.getD 71 undef = .bool false := z6 10 71 (hall ⟨10, .guard⟩ (by simp) rfl) rfl
     refine wpOp_on rfl rfl rfl rfl fg ?_
     have f13 : (aq.tmps.getD 74 undef) = .bool false := z6 13 74 (hall ⟨13, .data⟩ (by simp) rfl) rfl
     have f31 : (aq.tmps.getD 92 undef) = undef := z6 31 92 (hall ⟨31, .data⟩ (by simp) rfl) rfl
     have hK := fun (v : Value) (W2 : World) hW hT hv => hJ2.put hS 32 93 rfl (by omega) (W' := W2) hW hT v hv
     clear ho hall hl hQ
     generalize InvQ _ _ _ w0 a0 (lq.setIfInBounds 32 true) = K at hK ⊢
     clear hJ2 hS z1 z2 z3 z4 z6 z7
     go_simp
     exact hK _ _ z5 (fun _ _ h => h) rfl
   | 33, ho =>
     cases ho
     refine wpOp_of rfl rfl ?_
     have f10 : (aq.tmps.getD 71 undef) = .bool false := z6 10 71 (hall ⟨10, .data⟩ (by simp) rfl) rfl
     have f32 : (aq.tmps.getD 93 undef) = .bool false := z6 32 93 (hall ⟨32, .data⟩ (by simp) rfl) rfl
     have hK := fun (v : Value) (W2 : World) hW hT hv => hJ2.put hS 33 94 rfl (by omega) (W' := W2) hW hT v hv
     clear ho hall hl hQ
     generalize InvQ _ _ _ w0 a0 (lq.setIfInBounds 33 true) = K at hK ⊢
     clear hJ2 hS z1 z2 z3 z4 z6 z7
     go_simp
     exact hK _ _ z5 (fun _ _ h => h) rfl
   | iq + 34, ho => simp at ho
 · intro lq aq W hJ hr
   obtain ⟨z1, z2, z3, z4, z5, z6, z7⟩ := hJ
   have hl := listed_of hr [0, 1, 2, 3, 4, 5, 6, 7, 8, 9, 10, 11, 12, 13, 14, 15, 16, 17, 18, 19, 20, 21, 22, 23, 24, 25, 26, 27, 28, 29, 30, 31, 32, 33] [] (by simp) (by kernel_rfl) (by rw [z1]; decide)
   exact hQ aq W z2 z3 (fun e he => z4 e (by simpa using he)) (z6 33 94 (hl 33 (by simp)) rfl) z5
def VevN_D (n cap A off c m mc G ob k jj : Nat) (x y : Int) (_B : Nat) : Nat → Value → World → Prop
 | 0, v, _ => v = .slice (some ⟨A, off, none⟩) n cap
 | 1, v, _ => v = .int .i64 (c : Int)
 | 2, v, _ => v = .pointer (some ⟨A, off + c * 13, none⟩)
 | 3, v, _ => v = .pointer (some ⟨A, off + c * 13 + 12, none⟩)
 | 4, v, _ => v = .slice (some ⟨G, ob, none⟩) m mc
 | 5, v, _ => v = .int .i64 (k : Int)
 | 6, v, _ => v = .pointer (some ⟨G, ob + k, none⟩)
 | 7, v, _ => v = .int .i64 x
 | 8, v, _ => v = .bool true
 | 9, v, _ => v = .bool false
 | 10, v, _ => v = .bool false
 | 11, v, _ => v = .int .i64 (k : Int)
 | 12, v, _ => v = .bool true
 | 13, v, _ => v = .bool true
 | 14, v, _ => v = .slice (some ⟨A, off, none⟩) n cap
 | 15, v, _ => v = .int .i64 (c : Int)
 | 16, v, _ => v = .pointer (some ⟨A, off + c * 13, none⟩)
 | 17, v, _ => v = .pointer (some ⟨A, off + c * 13 + 12, none⟩)
 | 18, v, _ => v = .slice (some ⟨G, ob, none⟩) m mc
 | 19, v, _ => v = .int .i64 (k : Int)
 | 20, v, _ => v = .int .i64 (jj : Int)
 | 21, v, _ => v = .pointer (some ⟨G, ob + jj, none⟩)
 | 22, v, _ => v = .int .i64 y
 | 23, v, _ => v = .slice (some ⟨A, off, none⟩) n cap
 | 24, v, _ => v = .int .i64 (c : Int)
 | 25, v, _ => v = .pointer (some ⟨A, off + c * 13, none⟩)
 | 26, v, _ => v = .pointer (some ⟨A, off + c * 13 + 12, none⟩)
 | 27, v, _ => v = .slice (some ⟨G, ob, none⟩) m mc
 | 28, v, _ => v = .int .i64 (k : Int)
 | 29, v, _ => v = .pointer (some ⟨G, ob + k, none⟩)
 | 30, v, _ => v = .int .i64 x
 | 31, v, _ => v = .bool (decide (x ≤ y))
 | 32, v, _ => v = .bool (decide (x ≤ y))
 | 33, v, _ => v = .bool (decide (x ≤ y))
 | _, _, _ => True
theorem VevN_D.mono {n cap A off c m mc G ob k jj : Nat} {x y : Int} {B j : Nat} {v : Value} {W W2 : World} (_hB : Below W.heap.size W W2) (h : VevN_D n cap A off c m mc G ob k jj x y B j v W) : VevN_D n cap A off c m mc G ob k jj x y B j v W2 := by
 unfold VevN_D at *
 split <;> simp only at h <;> first | exact h | trivial
theorem evN_D {Q : Exit → Act → World → Prop} {n cap A off c m mc G ob k jj : Nat} {x y : Int}  {w0 : World} {a0 : Act} {idq : Nat} {t0 t1 t2 t3 t4 t5 t6 t7 t8 t9 t10 t11 t12 t13 t14 t15 t16 t17 t18 t19 t20 t21 t22 t23 t24 t25 t26 t27 t28 t29 t30 t31 t32 t33 : TypeId} {q0 q1 q2 q3 q4 q5 q6 q7 q8 q9 q10 q11 q12 q13 q14 q15 q16 q17 q18 q19 q20 q21 q22 q23 q24 q25 q26 q27 q28 q29 q30 q31 q32 q33 : String}
   (hc : c < n) (hn : n ≤ 200) (hk : k < m) (hm : m ≤ 1048576) (hx : decide (0 ≤ x ∧ x ≤ 39) = true) (hkj : Hid (k = jj + 1)) (h0 : a0.tmps[0]? = some (.slice (some ⟨A, off, none⟩) n cap)) (h3 : a0.tmps[3]? = some (.int .i64 (c : Int))) (h4 : a0.tmps[4]? = some (.int .i64 (k : Int))) (k0 : w0.cell? ⟨A, off + c * 13 + 12, none⟩ = some (.slice (some ⟨G, ob, none⟩) m mc)) (l0 : (⟨A, off + c * 13 + 12, none⟩ : Addr).block < w0.heap.size) (k1 : w0.cell? ⟨G, ob + k, none⟩ = some (.int .i64 x)) (l1 : (⟨G, ob + k, none⟩ : Addr).block < w0.heap.size) (k2 : w0.cell? ⟨G, ob + jj, none⟩ = some (.int .i64 y)) (l2 : (⟨G, ob + jj, none⟩ : Addr).block < w0.heap.size) (hz : a0.tmps.size = 95)
   (hQ : ∀ aq W, aq.tmps.size = a0.tmps.size → aq.defers = a0.defers → (∀ e, e ∉ ([61, 62, 63, 64, 65, 66, 67, 68, 69, 70, 71, 72, 73, 74, 75, 76, 77, 78, 79, 80, 81, 82, 83, 84, 85, 86, 87, 88, 89, 90, 91, 92, 93, 94] : List Nat) → aq.tmps[e]? = a0.tmps[e]?) → VevN_D n cap A off c m mc G ob k jj x y w0.heap.size 33 (aq.tmps.getD 94 undef) W → Below w0.heap.size w0 W → Q .normal aq W) :
   (Code.region idq #[{ dst := some 61, op := Op.move (.tmp 0), type := t0, pos := q0, after := #[], guard := none },
   { dst := some 62, op := Op.move (.tmp 3), type := t1, pos := q1, after := #[], guard := none },
   { dst := some 63, op := Op.indexAddr 44 (.tmp 61) (.tmp 62), type := t2, pos := q2, after := #[⟨0, .data⟩, ⟨1, .data⟩], guard := none },
   { dst := some 64, op := Op.fieldAddr 81 (.tmp 63) 1, type := t3, pos := q3, after := #[⟨2, .data⟩], guard := none },
   { dst := some 65, op := Op.load 29 (.tmp 64), type := t4, pos := q4, after := #[⟨3, .data⟩], guard := none },
   { dst := some 66, op := Op.move (.tmp 4), type := t5, pos := q5, after := #[], guard := none },
   { dst := some 67, op := Op.indexAddr 29 (.tmp 65) (.tmp 66), type := t6, pos := q6, after := #[⟨4, .data⟩, ⟨5, .data⟩], guard := none },
   { dst := some 68, op := Op.load 2 (.tmp 67), type := t7, pos := q7, after := #[⟨6, .data⟩], guard := none },
   { dst := some 69, op := Op.call { callee := Callee.value (Operand.func 34), args := #[.tmp 68, Operand.const (Value.int IntKind.i64 0), Operand.const (Value.int IntKind.i64 39)], argTypes := #[2, 2, 2] }, type := t8, pos := q8, after := #[⟨7, .data⟩], guard := none },
   { dst := some 70, op := Op.unOp UnOp.not 4 (.tmp 69), type := t9, pos := q9, after := #[⟨8, .data⟩], guard := none },
   { dst := some 71, op := Op.move (.tmp 70), type := t10, pos := q10, after := #[⟨9, .data⟩, ⟨8, .chain⟩], guard := none },
   { dst := some 72, op := Op.move (.tmp 4), type := t11, pos := q11, after := #[⟨10, .guard⟩], guard := some (10, false) },
   { dst := some 73, op := Op.binOp BinOp.gtr 3 (.tmp 72) (Operand.const (Value.int IntKind.i64 0)) 3, type := t12, pos := q12, after := #[⟨11, .data⟩, ⟨10, .guard⟩], guard := some (10, false) },
   { dst := some 74, op := Op.move (.tmp 73), type := t13, pos := q13, after := #[⟨12, .data⟩, ⟨10, .chain⟩, ⟨10, .guard⟩], guard := some (10, false) },
   { dst := some 75, op := Op.move (.tmp 0), type := t14, pos := q14, after := #[⟨13, .guard⟩], guard := some (13, true) },
   { dst := some 76, op := Op.move (.tmp 3), type := t15, pos := q15, after := #[⟨13, .guard⟩], guard := some (13, true) },
   { dst := some 77, op := Op.indexAddr 44 (.tmp 75) (.tmp 76), type := t16, pos := q16, after := #[⟨14, .data⟩, ⟨15, .data⟩, ⟨13, .guard⟩], guard := some (13, true) },
   { dst := some 78, op := Op.fieldAddr 81 (.tmp 77) 1, type := t17, pos := q17, after := #[⟨16, .data⟩, ⟨13, .guard⟩], guard := some (13, true) },
   { dst := some 79, op := Op.load 29 (.tmp 78), type := t18, pos := q18, after := #[⟨17, .data⟩, ⟨13, .guard⟩], guard := some (13, true) },
   { dst := some 80, op := Op.move (.tmp 4), type := t19, pos := q19, after := #[⟨13, .guard⟩], guard := some (13, true) },
   { dst := some 81, op := Op.binOp BinOp.sub 3 (.tmp 80) (Operand.const (Value.int IntKind.i64 1)) 3, type := t20, pos := q20, after := #[⟨19, .data⟩, ⟨13, .guard⟩], guard := some (13, true) },
   { dst := some 82, op := Op.indexAddr 29 (.tmp 79) (.tmp 81), type := t21, pos := q21, after := #[⟨18, .data⟩, ⟨20, .data⟩, ⟨13, .guard⟩], guard := some (13, true) },
   { dst := some 83, op := Op.load 2 (.tmp 82), type := t22, pos := q22, after := #[⟨21, .data⟩, ⟨13, .guard⟩], guard := some (13, true) },
   { dst := some 84, op := Op.move (.tmp 0), type := t23, pos := q23, after := #[⟨13, .guard⟩], guard := some (13, true) },
   { dst := some 85, op := Op.move (.tmp 3), type := t24, pos := q24, after := #[⟨13, .guard⟩], guard := some (13, true) },
   { dst := some 86, op := Op.indexAddr 44 (.tmp 84) (.tmp 85), type := t25, pos := q25, after := #[⟨23, .data⟩, ⟨24, .data⟩, ⟨13, .guard⟩], guard := some (13, true) },
   { dst := some 87, op := Op.fieldAddr 81 (.tmp 86) 1, type := t26, pos := q26, after := #[⟨25, .data⟩, ⟨13, .guard⟩], guard := some (13, true) },
   { dst := some 88, op := Op.load 29 (.tmp 87), type := t27, pos := q27, after := #[⟨26, .data⟩, ⟨13, .guard⟩], guard := some (13, true) },
   { dst := some 89, op := Op.move (.tmp 4), type := t28, pos := q28, after := #[⟨13, .guard⟩], guard := some (13, true) },
   { dst := some 90, op := Op.indexAddr 29 (.tmp 88) (.tmp 89), type := t29, pos := q29, after := #[⟨27, .data⟩, ⟨28, .data⟩, ⟨13, .guard⟩], guard := some (13, true) },
   { dst := some 91, op := Op.load 2 (.tmp 90), type := t30, pos := q30, after := #[⟨29, .data⟩, ⟨13, .guard⟩], guard := some (13, true) },
   { dst := some 92, op := Op.binOp BinOp.geq 2 (.tmp 83) (.tmp 91) 2, type := t31, pos := q31, after := #[⟨22, .data⟩, ⟨30, .data⟩, ⟨13, .guard⟩], guard := some (13, true) },
   { dst := some 93, op := Op.pick (.tmp 74) (.tmp 92) (Operand.const (Value.bool false)), type := t32, pos := q32, after := #[⟨13, .data⟩, ⟨31, .data⟩, ⟨10, .guard⟩], guard := some (10, false) },
   { dst := some 94, op := Op.pick (.tmp 71) (Operand.const (Value.bool true)) (.tmp 93), type := t33, pos := q33, after := #[⟨10, .data⟩, ⟨32, .data⟩], guard := none }] true).wp Tryz.prog Q a0 w0 := by
 have hS : distS [some 61, some 62, some 63, some 64, some 65, some 66, some 67, some 68, some 69, some 70, some 71, some 72, some 73, some 74, some 75, some 76, some 77, some 78, some 79, some 80, some 81, some 82, some 83, some 84, some 85, some 86, some 87, some 88, some 89, some 90, some 91, some 92, some 93, some 94] = true := rfl
 refine wp_region_q (by kernel_rfl) w0.heap.size [some 61, some 62, some 63, some 64, some 65, some 66, some 67, some 68, some 69, some 70, some 71, some 72, some 73, some 74, some 75, some 76, some 77, some 78, some 79, some 80, some 81, some 82, some 83, some 84, some 85, some 86, some 87, some 88, some 89, some 90, some 91, some 92, some 93, some 94] (VevN_D n cap A off c m mc G ob k jj x y w0.heap.size) rfl ?_ ?_
 · intro Q lq aq W iq oq hJ hl ho hall
   have hJ2 := hJ
   obtain ⟨z1, z2, z3, z4, z5, z6, z7⟩ := hJ
   have g0 : aq.tmps.getD 0 undef = .slice (some ⟨A, off, none⟩) n cap := by rw [Array.getD_eq_getD_getElem?, z4 0 (by decide), h0]; rfl
   have g3 : aq.tmps.getD 3 undef = .int .i64 (c : Int) := by rw [Array.getD_eq_getD_getElem?, z4 3 (by decide), h3]; rfl
   have g4 : aq.tmps.getD 4 undef = .int .i64 (k : Int) := by rw [Array.getD_eq_getD_getElem?, z4 4 (by decide), h4]; rfl
   have c0 : W.cell? ⟨A, off + c * 13 + 12, none⟩ = some (.slice (some ⟨G, ob, none⟩) m mc) := (z5.cell l0).trans k0
   have c1 : W.cell? ⟨G, ob + k, none⟩ = some (.int .i64 x) := (z5.cell l1).trans k1
   have c2 : W.cell? ⟨G, ob + jj, none⟩ = some (.int .i64 y) := (z5.cell l2).trans k2
   match iq, ho with
   | 0, ho =>
     cases ho
     refine wpOp_of rfl rfl ?_
     have hK := fun (v : Value) (W2 : World) hW hT hv => hJ2.put hS 0 61 rfl (by omega) (W' := W2) hW hT v hv
     clear ho hall hl hQ
     generalize InvQ _ _ _ w0 a0 (lq.setIfInBounds 0 true) = K at hK ⊢
     clear hJ2 hS z1 z2 z3 z4 z6 z7
     go_simp
     exact hK _ _ z5 (fun _ _ h => h) rfl
   | 1, ho =>
     cases ho
     refine wpOp_of rfl rfl ?_
     have hK := fun (v : Value) (W2 : World) hW hT hv => hJ2.put hS 1 62 rfl (by omega) (W' := W2) hW hT v hv
     clear ho hall hl hQ
     generalize InvQ _ _ _ w0 a0 (lq.setIfInBounds 1 true) = K at hK ⊢
     clear hJ2 hS z1 z2 z3 z4 z6 z7
     go_simp
     exact hK _ _ z5 (fun _ _ h => h) rfl
   | 2, ho =>
     cases ho
     refine wpOp_of rfl rfl ?_
     have f0 : (aq.tmps.getD 61 undef) = .slice (some ⟨A, off, none⟩) n cap := z6 0 61 (hall ⟨0, .data⟩ (by simp) rfl) rfl
     have f1 : (aq.tmps.getD 62 undef) = .int .i64 (c : Int) := z6 1 62 (hall ⟨1, .data⟩ (by simp) rfl) rfl
     have hcI : (c : Int) < n := by omega
     have hnI : (n : Int) ≤ 200 := by omega
     have hK := fun (v : Value) (W2 : World) hW hT hv => hJ2.put hS 2 63 rfl (by omega) (W' := W2) hW hT v hv
     clear ho hall hl hQ
     generalize InvQ _ _ _ w0 a0 (lq.setIfInBounds 2 true) = K at hK ⊢
     clear hJ2 hS z1 z2 z3 z4 z6 z7
     go_simp
     exact hK _ _ z5 (fun _ _ h => h) rfl
   | 3, ho =>
     cases ho
     refine wpOp_of rfl rfl ?_
     have f2 : (aq.tmps.getD 63 undef) = .pointer (some ⟨A, off + c * 13, none⟩) := z6 2 63 (hall ⟨2, .data⟩ (by simp) rfl) rfl
     have hK := fun (v : Value) (W2 : World) hW hT hv => hJ2.put hS 3 64 rfl (by omega) (W' := W2) hW hT v hv
     clear ho hall hl hQ
     generalize InvQ _ _ _ w0 a0 (lq.setIfInBounds 3 true) = K at hK ⊢
     clear hJ2 hS z1 z2 z3 z4 z6 z7
     go_simp
     exact hK _ _ z5 (fun _ _ h => h) rfl
   | 4, ho =>
     cases ho
     refine wpOp_of rfl rfl ?_
     have f3 : (aq.tmps.getD 64 undef) = .pointer (some ⟨A, off + c * 13 + 12, none⟩) := z6 3 64 (hall ⟨3, .data⟩ (by simp) rfl) rfl
     have hK := fun (v : Value) (W2 : World) hW hT hv => hJ2.put hS 4 65 rfl (by omega) (W' := W2) hW hT v hv
     clear ho hall hl hQ
     generalize InvQ _ _ _ w0 a0 (lq.setIfInBounds 4 true) = K at hK ⊢
     clear hJ2 hS z1 z2 z3 z4 z6 z7
     go_simp
     exact hK _ _ z5 (fun _ _ h => h) rfl
   | 5, ho =>
     cases ho
     refine wpOp_of rfl rfl ?_
     have hK := fun (v : Value) (W2 : World) hW hT hv => hJ2.put hS 5 66 rfl (by omega) (W' := W2) hW hT v hv
     clear ho hall hl hQ
     generalize InvQ _ _ _ w0 a0 (lq.setIfInBounds 5 true) = K at hK ⊢
     clear hJ2 hS z1 z2 z3 z4 z6 z7
     go_simp
     exact hK _ _ z5 (fun _ _ h => h) rfl
   | 6, ho =>
     cases ho
     refine wpOp_of rfl rfl ?_
     have f4 : (aq.tmps.getD 65 undef) = .slice (some ⟨G, ob, none⟩) m mc := z6 4 65 (hall ⟨4, .data⟩ (by simp) rfl) rfl
     have f5 : (aq.tmps.getD 66 undef) = .int .i64 (k : Int) := z6 5 66 (hall ⟨5, .data⟩ (by simp) rfl) rfl
     have hkI : (k : Int) < m := by omega
     have hmI : (m : Int) ≤ 1048576 := by omega
     have hK := fun (v : Value) (W2 : World) hW hT hv => hJ2.put hS 6 67 rfl (by omega) (W' := W2) hW hT v hv
     clear ho hall hl hQ
     generalize InvQ _ _ _ w0 a0 (lq.setIfInBounds 6 true) = K at hK ⊢
     clear hJ2 hS z1 z2 z3 z4 z6 z7
     go_simp
     exact hK _ _ z5 (fun _ _ h => h) rfl
   | 7, ho =>
     cases ho
     refine wpOp_of rfl rfl ?_
     have f6 : (aq.tmps.getD 67 undef) = .pointer (some ⟨G, ob + k, none⟩) := z6 6 67 (hall ⟨6, .data⟩ (by simp) rfl) rfl
     have hK := fun (v : Value) (W2 : World) hW hT hv => hJ2.put hS 7 68 rfl (by omega) (W' := W2) hW hT v hv
     clear ho hall hl hQ
     generalize InvQ _ _ _ w0 a0 (lq.setIfInBounds 7 true) = K at hK ⊢
     clear hJ2 hS z1 z2 z3 z4 z6 z7
     go_simp
     exact hK _ _ z5 (fun _ _ h => h) rfl
   | 8, ho =>
     cases ho
     refine wpOp_of rfl rfl ?_
     have f7 : (aq.tmps.getD 68 undef) = .int .i64 x := z6 7 68 (hall ⟨7, .data⟩ (by simp) rfl) rfl
     have hK := fun (v : Value) (W2 : World) hW hT hv => hJ2.put hS 8 69 rfl (by omega) (W' := W2) hW hT v hv
     clear ho hall hl hQ
     generalize InvQ _ _ _ w0 a0 (lq.setIfInBounds 8 true) = K at hK ⊢
     clear hJ2 hS z1 z2 z3 z4 z6 z7
     go_simp
     refine (l1In_any x 0 39 true hx W).mono ?_
     rintro e v1 ⟨rfl, hBv⟩
     exact hK _ _ (z5.trans (hBv.mono z5.size)) (fun j v h => h.mono hBv) rfl
   | 9, ho =>
     cases ho
     refine wpOp_of rfl rfl ?_
     have f8 : (aq.tmps.getD 69 undef) = .bool true := z6 8 69 (hall ⟨8, .data⟩ (by simp) rfl) rfl
     have hK := fun (v : Value) (W2 : World) hW hT hv => hJ2.put hS 9 70 rfl (by omega) (W' := W2) hW hT v hv
     clear ho hall hl hQ
     generalize InvQ _ _ _ w0 a0 (lq.setIfInBounds 9 true) = K at hK ⊢
     clear hJ2 hS z1 z2 z3 z4 z6 z7
     go_simp
     exact hK _ _ z5 (fun _ _ h => h) rfl
   | 10, ho =>
     cases ho
     refine wpOp_of rfl rfl ?_
     have f9 : (aq.tmps.getD 70 undef) = .bool false := z6 9 70 (hall ⟨9, .data⟩ (by simp) rfl) rfl
     have hK := fun (v : Value) (W2 : World) hW hT hv => hJ2.put hS 10 71 rfl (by omega) (W' := W2) hW hT v hv
     clear ho hall hl hQ
     generalize InvQ _ _ _ w0 a0 (lq.setIfInBounds 10 true) = K at hK ⊢
     clear hJ2 hS z1 z2 z3 z4 z6 z7
     go_simp
     exact hK _ _ z5 (fun _ _ h => h) rfl
   | 11, ho =>
     cases ho
     have fg : aq.tmps.getD 71 undef = .bool false := z6 10 71 (hall ⟨10, .guard⟩ (by simp) rfl) rfl
     refine wpOp_on rfl rfl rfl rfl fg ?_
     have hK := fun (v : Value) (W2 : World) hW hT hv => hJ2.put hS 11 72 rfl (by omega) (W' := W2) hW hT v hv
     clear ho hall hl hQ
     generalize InvQ _ _ _ w0 a0 (lq.setIfInBounds 11 true) = K at hK ⊢
     clear hJ2 hS z1 z2 z3 z4 z6 z7
     go_simp
     exact hK _ _ z5 (fun _ _ h => h) rfl
   | 12, ho =>
     cases ho
     have fg : aq.tmps.getD 71 undef = .bool false := z6 10 71 (hall ⟨10, .guard⟩ (by simp) rfl) rfl
     refine wpOp_on rfl rfl rfl rfl fg ?_
     have f11 : (aq.tmps.getD 72 undef) = .int .i64 (k : Int) := z6 11 72 (hall ⟨11, .data⟩ (by simp) rfl) rfl
     have hgt : (0 : Int) < k := by have ho := hkj.out; omega
     have hK := fun (v : Value) (W2 : World) hW hT hv => hJ2.put hS 12 73 rfl (by omega) (W' := W2) hW hT v hv
     clear ho hall hl hQ
     generalize InvQ _ _ _ w0 a0 (lq.setIfInBounds 12 true) = K at hK ⊢
     clear hJ2 hS z1 z2 z3 z4 z6 z7
     go_simp
     exact hK _ _ z5 (fun _ _ h => h) (by show _ = _; exact congrArg Value.bool (decide_eq_true (by omega)))
   | 13, ho =>
     cases ho
     have fg : aq.tmps.getD 71 undef = .bool false := z6 10 71 (hall ⟨10, .guard⟩ (by simp) rfl) rfl
     refine wpOp_on rfl rfl rfl rfl fg ?_
     have f12 : (aq.tmps.getD 73 undef) = .bool true := z6 12 73 (hall ⟨12, .data⟩ (by simp) rfl) rfl
     have hK := fun (v : Value) (W2 : World) hW hT hv => hJ2.put hS 13 74 rfl (by omega) (W' := W2) hW hT v hv
     clear ho hall hl hQ
     generalize InvQ _ _ _ w0 a0 (lq.setIfInBounds 13 true) = K at hK ⊢
     clear hJ2 hS z1 z2 z3 z4 z6 z7
     go_simp
     exact hK _ _ z5 (fun _ _ h => h) rfl
   | 14, ho =>
     cases ho
     have fg : aq.tmps.getD 74 undef = .bool true := z6 13 74 (hall ⟨13, .guard⟩ (by simp) rfl) rfl
     refine wpOp_on rfl rfl rfl rfl fg ?_
     have hK := fun (v : Value) (W2 : World) hW hT hv => hJ2.put hS 14 75 rfl (by omega) (W' := W2) hW hT v hv
     clear ho hall hl hQ
     generalize InvQ _ _ _ w0 a0 (lq.setIfInBounds 14 true) = K at hK ⊢
     clear hJ2 hS z1 z2 z3 z4 z6 z7
     go_simp
     exact hK _ _ z5 (fun _ _ h => h) rfl
   | 15, ho =>
     cases ho
     have fg : aq.tmps.getD 74 undef = .bool true := z6 13 74 (hall ⟨13, .guard⟩ (by simp) rfl) rfl
     refine wpOp_on rfl rfl rfl rfl fg ?_
     have hK := fun (v : Value) (W2 : World) hW hT hv => hJ2.put hS 15 76 rfl (by omega) (W' := W2) hW hT v hv
     clear ho hall hl hQ
     generalize InvQ _ _ _ w0 a0 (lq.setIfInBounds 15 true) = K at hK ⊢
     clear hJ2 hS z1 z2 z3 z4 z6 z7
     go_simp
     exact hK _ _ z5 (fun _ _ h => h) rfl
   | 16, ho =>
     cases ho
     have fg : aq.tmps.getD 74 undef = .bool true := z6 13 74 (hall ⟨13, .guard⟩ (by simp) rfl) rfl
     refine wpOp_on rfl rfl rfl rfl fg ?_
     have f14 : (aq.tmps.getD 75 undef) = .slice (some ⟨A, off, none⟩) n cap := z6 14 75 (hall ⟨14, .data⟩ (by simp) rfl) rfl
     have f15 : (aq.tmps.getD 76 undef) = .int .i64 (c : Int) := z6 15 76 (hall ⟨15, .data⟩ (by simp) rfl) rfl
     have hcI : (c : Int) < n := by omega
     have hnI : (n : Int) ≤ 200 := by omega
     have hK := fun (v : Value) (W2 : World) hW hT hv => hJ2.put hS 16 77 rfl (by omega) (W' := W2) hW hT v hv
     clear ho hall hl hQ
     generalize InvQ _ _ _ w0 a0 (lq.setIfInBounds 16 true) = K at hK ⊢
     clear hJ2 hS z1 z2 z3 z4 z6 z7
     go_simp
     exact hK _ _ z5 (fun _ _ h => h) rfl
   | 17, ho =>
     cases ho
     have fg : aq.tmps.getD 74 undef = .bool true := z6 13 74 (hall ⟨13, .guard⟩ (by simp) rfl) rfl
     refine wpOp_on rfl rfl rfl rfl fg ?_
     have f16 : (aq.tmps.getD 77 undef) = .pointer (some ⟨A, off + c * 13, none⟩) := z6 16 77 (hall ⟨16, .data⟩ (by simp) rfl) rfl
     have hK := fun (v : Value) (W2 : World) hW hT hv => hJ2.put hS 17 78 rfl (by omega) (W' := W2) hW hT v hv
     clear ho hall hl hQ
     generalize InvQ _ _ _ w0 a0 (lq.setIfInBounds 17 true) = K at hK ⊢
     clear hJ2 hS z1 z2 z3 z4 z6 z7
     go_simp
     exact hK _ _ z5 (fun _ _ h => h) rfl
   | 18, ho =>
     cases ho
     have fg : aq.tmps.getD 74 undef = .bool true := z6 13 74 (hall ⟨13, .guard⟩ (by simp) rfl) rfl
     refine wpOp_on rfl rfl rfl rfl fg ?_
     have f17 : (aq.tmps.getD 78 undef) = .pointer (some ⟨A, off + c * 13 + 12, none⟩) := z6 17 78 (hall ⟨17, .data⟩ (by simp) rfl) rfl
     have hK := fun (v : Value) (W2 : World) hW hT hv => hJ2.put hS 18 79 rfl (by omega) (W' := W2) hW hT v hv
     clear ho hall hl hQ
     generalize InvQ _ _ _ w0 a0 (lq.setIfInBounds 18 true) = K at hK ⊢
     clear hJ2 hS z1 z2 z3 z4 z6 z7
     go_simp
     exact hK _ _ z5 (fun _ _ h => h) rfl
   | 19, ho =>
     cases ho
     have fg : aq.tmps.getD 74 undef = .bool true := z6 13 74 (hall ⟨13, .guard⟩ (by simp) rfl) rfl
     refine wpOp_on rfl rfl rfl rfl fg ?_
     have hK := fun (v : Value) (W2 : World) hW hT hv => hJ2.put hS 19 80 rfl (by omega) (W' := W2) hW hT v hv
     clear ho hall hl hQ
     generalize InvQ _ _ _ w0 a0 (lq.setIfInBounds 19 true) = K at hK ⊢
     clear hJ2 hS z1 z2 z3 z4 z6 z7
     go_simp
     exact hK _ _ z5 (fun _ _ h => h) rfl
   | 20, ho =>
     cases ho
     have fg : aq.tmps.getD 74 undef = .bool true := z6 13 74 (hall ⟨13, .guard⟩ (by simp) rfl) rfl
     refine wpOp_on rfl rfl rfl rfl fg ?_
     have f19 : (aq.tmps.getD 80 undef) = .int .i64 (k : Int) := z6 19 80 (hall ⟨19, .data⟩ (by simp) rfl) rfl
     have hkI : (k : Int) < m := by omega
     have hmI : (m : Int) ≤ 1048576 := by omega
     have hkz : (k : Int) = jj + 1 := by have ho := hkj.out; omega
     have hwd : IntKind.i64.wrap (jj : Int) = jj := by have ho := hkj.out; rw [IntKind.wrap_i64]; omega
     have hK := fun (v : Value) (W2 : World) hW hT hv => hJ2.put hS 20 81 rfl (by omega) (W' := W2) hW hT v hv
     clear ho hall hl hQ
     generalize InvQ _ _ _ w0 a0 (lq.setIfInBounds 20 true) = K at hK ⊢
     clear hJ2 hS z1 z2 z3 z4 z6 z7
     go_simp
     exact hK _ _ z5 (fun _ _ h => h) (by show _ = _; first | rfl | go_num)
   | 21, ho =>
     cases ho
     have fg : aq.tmps.getD 74 undef = .bool true := z6 13 74 (hall ⟨13, .guard⟩ (by simp) rfl) rfl
     refine wpOp_on rfl rfl rfl rfl fg ?_
     have f18 : (aq.tmps.getD 79 undef) = .slice (some ⟨G, ob, none⟩) m mc := z6 18 79 (hall ⟨18, .data⟩ (by simp) rfl) rfl
     have f20 : (aq.tmps.getD 81 undef) = .int .i64 (jj : Int) := z6 20 81 (hall ⟨20, .data⟩ (by simp) rfl) rfl
     have hjI : (jj : Int) < m := by have ho := hkj.out; omega
     have hmI : (m : Int) ≤ 1048576 := by omega
     have hK := fun (v : Value) (W2 : World) hW hT hv => hJ2.put hS 21 82 rfl (by omega) (W' := W2) hW hT v hv
     clear ho hall hl hQ
     generalize InvQ _ _ _ w0 a0 (lq.setIfInBounds 21 true) = K at hK ⊢
     clear hJ2 hS z1 z2 z3 z4 z6 z7
     go_simp
     exact hK _ _ z5 (fun _ _ h => h) rfl
   | 22, ho =>
     cases ho
     have fg : aq.tmps.getD 74 undef = .bool true := z6 13 74 (hall ⟨13, .guard⟩ (by simp) rfl) rfl
     refine wpOp_on rfl rfl rfl rfl fg ?_
     have f21 : (aq.tmps.getD 82 undef) = .pointer (some ⟨G, ob + jj, none⟩) := z6 21 82 (hall ⟨21, .data⟩ (by simp) rfl) rfl
     have hK := fun (v : Value) (W2 : World) hW hT hv => hJ2.put hS 22 83 rfl (by omega) (W' := W2) hW hT v hv
     clear ho hall hl hQ
     generalize InvQ _ _ _ w0 a0 (lq.setIfInBounds 22 true) = K at hK ⊢
     clear hJ2 hS z1 z2 z3 z4 z6 z7
     go_simp
     exact hK _ _ z5 (fun _ _ h => h) rfl
   | 23, ho =>
     cases ho
     have fg : aq.tmps.getD 74 undef = .bool true := z6 13 74 (hall ⟨13, .guard⟩ (by simp) rfl) rfl
     refine wpOp_on rfl rfl rfl rfl fg ?_
     have hK := fun (v : Value) (W2 : World) hW hT hv => hJ2.put hS 23 84 rfl (by omega) (W' := W2) hW hT v hv
     clear ho hall hl hQ
     generalize InvQ _ _ _ w0 a0 (lq.setIfInBounds 23 true) = K at hK ⊢
     clear hJ2 hS z1 z2 z3 z4 z6 z7
     go_simp
     exact hK _ _ z5 (fun _ _ h => h) rfl
   | 24, ho =>
     cases ho
     have fg : aq.tmps.getD 74 undef = .bool true := z6 13 74 (hall ⟨13, .guard⟩ (by simp) rfl) rfl
     refine wpOp_on rfl rfl rfl rfl fg ?_
     have hK := fun (v : Value) (W2 : World) hW hT hv => hJ2.put hS 24 85 rfl (by omega) (W' := W2) hW hT v hv
     clear ho hall hl hQ
     generalize InvQ _ _ _ w0 a0 (lq.setIfInBounds 24 true) = K at hK ⊢
     clear hJ2 hS z1 z2 z3 z4 z6 z7
     go_simp
     exact hK _ _ z5 (fun _ _ h => h) rfl
   | 25, ho =>
     cases ho
     have fg : aq.tmps.getD 74 undef = .bool true := z6 13 74 (hall ⟨13, .guard⟩ (by simp) rfl) rfl
     refine wpOp_on rfl rfl rfl rfl fg ?_
     have f23 : (aq.tmps.getD 84 undef) = .slice (some ⟨A, off, none⟩) n cap := z6 23 84 (hall ⟨23, .data⟩ (by simp) rfl) rfl
     have f24 : (aq.tmps.getD 85 undef) = .int .i64 (c : Int) := z6 24 85 (hall ⟨24, .data⟩ (by simp) rfl) rfl
     have hcI : (c : Int) < n := by omega
     have hnI : (n : Int) ≤ 200 := by omega
     have hK := fun (v : Value) (W2 : World) hW hT hv => hJ2.put hS 25 86 rfl (by omega) (W' := W2) hW hT v hv
     clear ho hall hl hQ
     generalize InvQ _ _ _ w0 a0 (lq.setIfInBounds 25 true) = K at hK ⊢
     clear hJ2 hS z1 z2 z3 z4 z6 z7
     go_simp
     exact hK _ _ z5 (fun _ _ h => h) rfl
   | 26, ho =>
     cases ho
     have fg : aq.tmps.getD 74 undef = .bool true := z6 13 74 (hall ⟨13, .guard⟩ (by simp) rfl) rfl
     refine wpOp_on rfl rfl rfl rfl fg ?_
     have f25 : (aq.tmps.getD 86 undef) = .pointer (some ⟨A, off + c * 13, none⟩) := z6 25 86 (hall ⟨25, .data⟩ (by simp) rfl) rfl
     have hK := fun (v : Value) (W2 : World) hW hT hv => hJ2.put hS 26 87 rfl (by omega) (W' := W2) hW hT v hv
     clear ho hall hl hQ
     generalize InvQ _ _ _ w0 a0 (lq.setIfInBounds 26 true) = K at hK ⊢
     clear hJ2 hS z1 z2 z3 z4 z6 z7
     go_simp
     exact hK _ _ z5 (fun _ _ h => h) rfl
   | 27, ho =>
     cases ho
     have fg : aq.tmps.getD 74 undef = .bool true := z6 13 74 (hall ⟨13, .guard⟩ (by simp) rfl) rfl
     refine wpOp_on rfl rfl rfl rfl fg ?_
     have f26 : (aq.tmps.getD 87 undef) = .pointer (some ⟨A, off + c * 13 + 12, none⟩) := z6 26 87 (hall ⟨26, .data⟩ (by simp) rfl) rfl
     have hK := fun (v : Value) (W2 : World) hW hT hv => hJ2.put hS 27 88 rfl (by omega) (W' := W2) hW hT v hv
     clear ho hall hl hQ
     generalize InvQ _ _ _ w0 a0 (lq.setIfInBounds 27 true) = K at hK ⊢
     clear hJ2 hS z1 z2 z3 z4 z6 z7
     go_simp
     exact hK _ _ z5 (fun _ _ h => h) rfl
   | 28, ho =>
     cases ho
     have fg : aq.tmps.getD 74 undef = .bool true := z6 13 74 (hall ⟨13, .guard⟩ (by simp) rfl) rfl
     refine wpOp_on rfl rfl rfl rfl fg ?_
     have hK := fun (v : Value) (W2 : World) hW hT hv => hJ2.put hS 28 89 rfl (by omega) (W' := W2) hW hT v hv
     clear ho hall hl hQ
     generalize InvQ _ _ _ w0 a0 (lq.setIfInBounds 28 true) = K at hK ⊢
     clear hJ2 hS z1 z2 z3 z4 z6 z7
     go_simp
     exact hK _ _ z5 (fun _ _ h => h) rfl
   | 29, ho =>
     cases ho
     have fg : aq.tmps.getD 74 undef = .bool true := z6 13 74 (hall ⟨13, .guard⟩ (by simp) rfl) rfl
     refine wpOp_on rfl rfl rfl rfl fg ?_
     have f27 : (aq.tmps.getD 88 undef) = .slice (some ⟨G, ob, none⟩) m mc := z6 27 88 (hall ⟨27, .data⟩ (by simp) rfl) rfl
     have f28 : (aq.tmps.getD 89 undef) = .int .i64 (k : Int) := z6 28 89 (hall ⟨28, .data⟩ (by simp) rfl) rfl
     have hkI : (k : Int) < m := by omega
     have hmI : (m : Int) ≤ 1048576 := by omega
     have hK := fun (v : Value) (W2 : World) hW hT hv => hJ2.put hS 29 90 rfl (by omega) (W' := W2) hW hT v hv
     clear ho hall hl hQ
     generalize InvQ _ _ _ w0 a0 (lq.setIfInBounds 29 true) = K at hK ⊢
     clear hJ2 hS z1 z2 z3 z4 z6 z7
     go_simp
     exact hK _ _ z5 (fun _ _ h => h) rfl
   | 30, ho =>
     cases ho
     have fg : aq.tmps.getD 74 undef = .bool true := z6 13 74 (hall ⟨13, .guard⟩ (by simp) rfl) rfl
     refine wpOp_on rfl rfl rfl rfl fg ?_
     have f29 : (aq.tmps.getD 90 undef) = .pointer (some ⟨G, ob + k, none⟩) := z6 29 90 (hall ⟨29, .data⟩ (by simp) rfl) rfl
     have hK := fun (v : Value) (W2 : World) hW hT hv => hJ2.put hS 30 91 rfl (by omega) (W' := W2) hW hT v hv
     clear ho hall hl hQ
     generalize InvQ _ _ _ w0 a0 (lq.setIfInBounds 30 true) = K at hK ⊢
     clear hJ2 hS z1 z2 z3 z4 z6 z7
     go_simp
     exact hK _ _ z5 (fun _ _ h => h) rfl
   | 31, ho =>
     cases ho
     have fg : aq.tmps.getD 74 undef = .bool true := z6 13 74 (hall ⟨13, .guard⟩ (by simp) rfl) rfl
     refine wpOp_on rfl rfl rfl rfl fg ?_
     have f22 : (aq.tmps.getD 83 undef) = .int .i64 y := z6 22 83 (hall ⟨22, .data⟩ (by simp) rfl) rfl
     have f30 : (aq.tmps.getD 91 undef) = .int .i64 x := z6 30 91 (hall ⟨30, .data⟩ (by simp) rfl) rfl
     have hK := fun (v : Value) (W2 : World) hW hT hv => hJ2.put hS 31 92 rfl (by omega) (W' := W2) hW hT v hv
     clear ho hall hl hQ
     generalize InvQ _ _ _ w0 a0 (lq.setIfInBounds 31 true) = K at hK ⊢
     clear hJ2 hS z1 z2 z3 z4 z6 z7
     go_simp
     exact hK _ _ z5 (fun _ _ h => h) (by show _ = _; first | rfl | simp)
   | 32, ho =>
     cases ho
     have fg : aq.tmps.getD 71 undef = .bool false := z6 10 71 (hall ⟨10, .guard⟩ (by simp) rfl) rfl
     refine wpOp_on rfl rfl rfl rfl fg ?_
     have f13 : (aq.tmps.getD 74 undef) = .bool true := z6 13 74 (hall ⟨13, .data⟩ (by simp) rfl) rfl
     have f31 : (aq.tmps.getD 92 undef) = .bool (decide (x ≤ y)) := z6 31 92 (hall ⟨31, .data⟩ (by simp) rfl) rfl
     have hK := fun (v : Value) (W2 : World) hW hT hv => hJ2.put hS 32 93 rfl (by omega) (W' := W2) hW hT v hv
     clear ho hall hl hQ
     generalize InvQ _ _ _ w0 a0 (lq.setIfInBounds 32 true) = K at hK ⊢
     clear hJ2 hS z1 z2 z3 z4 z6 z7
     go_simp
     exact hK _ _ z5 (fun _ _ h => h) rfl
   | 33, ho =>
     cases ho
     refine wpOp_of rfl rfl ?_
     have f10 : (aq.tmps.getD 71 undef) = .bool false := z6 10 71 (hall ⟨10, .data⟩ (by simp) rfl) rfl
     have f32 : (aq.tmps.getD 93 undef) = .bool (decide (x ≤ y)) := z6 32 93 (hall ⟨32, .data⟩ (by simp) rfl) rfl
     have hK := fun (v : Value) (W2 : World) hW hT hv => hJ2.put hS 33 94 rfl (by omega) (W' := W2) hW hT v hv
     clear ho hall hl hQ
     generalize InvQ _ _ _ w0 a0 (lq.setIfInBounds 33 true) = K at hK ⊢
     clear hJ2 hS z1 z2 z3 z4 z6 z7
     go_simp
     exact hK _ _ z5 (fun _ _ h => h) rfl
   | iq + 34, ho => simp at ho
 · intro lq aq W hJ hr
   obtain ⟨z1, z2, z3, z4, z5, z6, z7⟩ := hJ
   have hl := listed_of hr [0, 1, 2, 3, 4, 5, 6, 7, 8, 9, 10, 11, 12, 13, 14, 15, 16, 17, 18, 19, 20, 21, 22, 23, 24, 25, 26, 27, 28, 29, 30, 31, 32, 33] [] (by simp) (by kernel_rfl) (by rw [z1]; decide)
   exact hQ aq W z2 z3 (fun e he => z4 e (by simpa using he)) (z6 33 94 (hl 33 (by simp)) rfl) z5
def VevI_A (Be : Nat) (x y z : Int) (_B : Nat) : Nat → Value → World → Prop
 | 0, v, _ => v = .pointer (some ⟨Be, 0, none⟩)
 | 1, v, _ => v = PV x y z
 | 2, v, _ => v = .bool (ptB x y z)
 | 3, v, _ => v = .bool true
 | 4, v, _ => v = .bool true
 | 5, v, _ => v = undef
 | 6, v, _ => v = undef
 | 7, v, _ => v = undef
 | 8, v, _ => v = undef
 | 9, v, _ => v = .bool true
 | 10, v, _ => v = .bool true
 | 11, v, _ => v = undef
 | 12, v, _ => v = undef
 | 13, v, _ => v = undef
 | 14, v, _ => v = undef
 | 15, v, _ => v = undef
 | 16, v, _ => v = undef
 | 17, v, _ => v = undef
 | 18, v, _ => v = undef
 | 19, v, _ => v = undef
 | 20, v, _ => v = undef
 | 21, v, _ => v = undef
 | 22, v, _ => v = undef
 | 23, v, _ => v = undef
 | 24, v, _ => v = undef
 | 25, v, _ => v = .bool true
 | _, _, _ => True
theorem VevI_A.mono {Be : Nat} {x y z : Int} {B j : Nat} {v : Value} {W W2 : World} (_hB : Below W.heap.size W W2) (h : VevI_A Be x y z B j v W) : VevI_A Be x y z B j v W2 := by
 unfold VevI_A at *
 split <;> simp only at h <;> first | exact h | trivial
theorem evI_A {Q : Exit → Act → World → Prop} {Be : Nat} {x y z : Int} {c m mc : Nat} {eo : Option Addr} {w0 : World} {a0 : Act} {idq : Nat} {t0 t1 t2 t3 t4 t5 t6 t7 t8 t9 t10 t11 t12 t13 t14 t15 t16 t17 t18 t19 t20 t21 t22 t23 t24 t25 : TypeId} {q0 q1 q2 q3 q4 q5 q6 q7 q8 q9 q10 q11 q12 q13 q14 q15 q16 q17 q18 q19 q20 q21 q22 q23 q24 q25 : String}
   (ta : told x = true) (tb : told y = true) (tc : told z = true) (hp : ptB x y z = false) (h3 : a0.tmps[3]? = some (.int .i64 (c : Int))) (h4 : a0.tmps[4]? = some (.pointer (some ⟨Be, 0, none⟩))) (k0 : w0.cell? ⟨Be, 0, none⟩ = some (.int .u64 (ww3 x))) (l0 : (⟨Be, 0, none⟩ : Addr).block < w0.heap.size) (k1 : w0.cell? ⟨Be, 1, none⟩ = some (.int .u64 (ww2 x))) (l1 : (⟨Be, 1, none⟩ : Addr).block < w0.heap.size) (k2 : w0.cell? ⟨Be, 2, none⟩ = some (.int .u64 (ww1 x))) (l2 : (⟨Be, 2, none⟩ : Addr).block < w0.heap.size) (k3 : w0.cell? ⟨Be, 3, none⟩ = some (.int .u64 (ww0 x))) (l3 : (⟨Be, 3, none⟩ : Addr).block < w0.heap.size) (k4 : w0.cell? ⟨Be, 4, none⟩ = some (.int .u64 (ww3 y))) (l4 : (⟨Be, 4, none⟩ : Addr).block < w0.heap.size) (k5 : w0.cell? ⟨Be, 5, none⟩ = some (.int .u64 (ww2 y))) (l5 : (⟨Be, 5, none⟩ : Addr).block < w0.heap.size) (k6 : w0.cell? ⟨Be, 6, none⟩ = some (.int .u64 (ww1 y))) (l6 : (⟨Be, 6, none⟩ : Addr).block < w0.heap.size) (k7 : w0.cell? ⟨Be, 7, none⟩ = some (.int .u64 (ww0 y))) (l7 : (⟨Be, 7, none⟩ : Addr).block < w0.heap.size) (k8 : w0.cell? ⟨Be, 8, none⟩ = some (.int .u64 (ww3 z))) (l8 : (⟨Be, 8, none⟩ : Addr).block < w0.heap.size) (k9 : w0.cell? ⟨Be, 9, none⟩ = some (.int .u64 (ww2 z))) (l9 : (⟨Be, 9, none⟩ : Addr).block < w0.heap.size) (k10 : w0.cell? ⟨Be, 10, none⟩ = some (.int .u64 (ww1 z))) (l10 : (⟨Be, 10, none⟩ : Addr).block < w0.heap.size) (k11 : w0.cell? ⟨Be, 11, none⟩ = some (.int .u64 (ww0 z))) (l11 : (⟨Be, 11, none⟩ : Addr).block < w0.heap.size) (k12 : w0.cell? ⟨Be, 12, none⟩ = some (.slice eo m mc)) (l12 : (⟨Be, 12, none⟩ : Addr).block < w0.heap.size) (hz : a0.tmps.size = 42)
   (hQ : ∀ aq W, aq.tmps.size = a0.tmps.size → aq.defers = a0.defers → (∀ e, e ∉ ([15, 16, 17, 18, 19, 20, 21, 22, 23, 24, 25, 26, 27, 28, 29, 30, 31, 32, 33, 34, 35, 36, 37, 38, 39, 40] : List Nat) → aq.tmps[e]? = a0.tmps[e]?) → VevI_A Be x y z w0.heap.size 25 (aq.tmps.getD 40 undef) W → Below w0.heap.size w0 W → Q .normal aq W) :
   (Code.region idq #[{ dst := some 15, op := Op.fieldAddr 81 (.tmp 4) 0, type := t0, pos := q0, after := #[], guard := none },
   { dst := some 16, op := Op.load 35 (.tmp 15), type := t1, pos := q1, after := #[⟨0, .data⟩], guard := none },
   { dst := some 17, op := Op.call { callee := Callee.value (Operand.func 29), args := #[.tmp 16], argTypes := #[35] }, type := t2, pos := q2, after := #[⟨1, .data⟩], guard := none },
   { dst := some 18, op := Op.unOp UnOp.not 4 (.tmp 17), type := t3, pos := q3, after := #[⟨2, .data⟩], guard := none },
   { dst := some 19, op := Op.move (.tmp 18), type := t4, pos := q4, after := #[⟨3, .data⟩, ⟨2, .chain⟩], guard := none },
   { dst := some 20, op := Op.fieldAddr 81 (.tmp 4) 1, type := t5, pos := q5, after := #[⟨4, .guard⟩], guard := some (4, false) },
   { dst := some 21, op := Op.load 29 (.tmp 20), type := t6, pos := q6, after := #[⟨5, .data⟩, ⟨4, .guard⟩], guard := some (4, false) },
   { dst := some 22, op := Op.call { callee := Callee.value (Operand.func 70), args := #[.tmp 21], argTypes := #[29] }, type := t7, pos := q7, after := #[⟨6, .data⟩, ⟨4, .chain⟩, ⟨4, .guard⟩], guard := some (4, false) },
   { dst := some 23, op := Op.unOp UnOp.not 4 (.tmp 22), type := t8, pos := q8, after := #[⟨7, .data⟩, ⟨4, .guard⟩], guard := some (4, false) },
   { dst := some 24, op := Op.pick (.tmp 19) (Operand.const (Value.bool true)) (.tmp 23), type := t9, pos := q9, after := #[⟨4, .data⟩, ⟨8, .data⟩], guard := none },
   { dst := some 25, op := Op.move (.tmp 24), type := t10, pos := q10, after := #[⟨9, .data⟩, ⟨7, .chain⟩], guard := none },
   { dst := some 26, op := Op.move (.tmp 3), type := t11, pos := q11, after := #[⟨10, .guard⟩], guard := some (10, false) },
   { dst := some 27, op := Op.binOp BinOp.gtr 3 (.tmp 26) (Operand.const (Value.int IntKind.i64 0)) 3, type := t12, pos := q12, after := #[⟨11, .data⟩, ⟨10, .guard⟩], guard := some (10, false) },
   { dst := some 28, op := Op.move (.tmp 27), type := t13, pos := q13, after := #[⟨12, .data⟩, ⟨10, .chain⟩, ⟨10, .guard⟩], guard := some (10, false) },
   { dst := some 29, op := Op.move (.tmp 0), type := t14, pos := q14, after := #[⟨13, .guard⟩], guard := some (13, true) },
   { dst := some 30, op := Op.move (.tmp 3), type := t15, pos := q15, after := #[⟨13, .guard⟩], guard := some (13, true) },
   { dst := some 31, op := Op.binOp BinOp.sub 3 (.tmp 30) (Operand.const (Value.int IntKind.i64 1)) 3, type := t16, pos := q16, after := #[⟨15, .data⟩, ⟨13, .guard⟩], guard := some (13, true) },
   { dst := some 32, op := Op.indexAddr 44 (.tmp 29) (.tmp 31), type := t17, pos := q17, after := #[⟨14, .data⟩, ⟨16, .data⟩, ⟨13, .guard⟩], guard := some (13, true) },
   { dst := some 33, op := Op.fieldAddr 81 (.tmp 32) 0, type := t18, pos := q18, after := #[⟨17, .data⟩, ⟨13, .guard⟩], guard := some (13, true) },
   { dst := some 34, op := Op.load 35 (.tmp 33), type := t19, pos := q19, after := #[⟨18, .data⟩, ⟨13, .guard⟩], guard := some (13, true) },
   { dst := some 35, op := Op.fieldAddr 81 (.tmp 4) 0, type := t20, pos := q20, after := #[⟨13, .guard⟩], guard := some (13, true) },
   { dst := some 36, op := Op.load 35 (.tmp 35), type := t21, pos := q21, after := #[⟨20, .data⟩, ⟨13, .guard⟩], guard := some (13, true) },
   { dst := some 37, op := Op.call { callee := Callee.value (Operand.func 71), args := #[.tmp 34, .tmp 36], argTypes := #[35, 35] }, type := t22, pos := q22, after := #[⟨19, .data⟩, ⟨21, .data⟩, ⟨13, .chain⟩, ⟨13, .guard⟩], guard := some (13, true) },
   { dst := some 38, op := Op.binOp BinOp.geq 2 (.tmp 37) (Operand.const (Value.int IntKind.i64 0)) 2, type := t23, pos := q23, after := #[⟨22, .data⟩, ⟨13, .guard⟩], guard := some (13, true) },
   { dst := some 39, op := Op.pick (.tmp 28) (.tmp 38) (Operand.const (Value.bool false)), type := t24, pos := q24, after := #[⟨13, .data⟩, ⟨23, .data⟩, ⟨10, .guard⟩], guard := some (10, false) },
   { dst := some 40, op := Op.pick (.tmp 25) (Operand.const (Value.bool true)) (.tmp 39), type := t25, pos := q25, after := #[⟨10, .data⟩, ⟨24, .data⟩], guard := none }] true).wp Tryz.prog Q a0 w0 := by
 have hS : distS [some 15, some 16, some 17, some 18, some 19, some 20, some 21, some 22, some 23, some 24, some 25, some 26, some 27, some 28, some 29, some 30, some 31, some 32, some 33, some 34, some 35, some 36, some 37, some 38, some 39, some 40] = true := rfl
 refine wp_region_q (by kernel_rfl) w0.heap.size [some 15, some 16, some 17, some 18, some 19, some 20, some 21, some 22, some 23, some 24, some 25, some 26, some 27, some 28, some 29, some 30, some 31, some 32, some 33, some 34, some 35, some 36, some 37, some 38, some 39, some 40] (VevI_A Be x y z w0.heap.size) rfl ?_ ?_
 · intro Q lq aq W iq oq hJ hl ho hall
   have hJ2 := hJ
   obtain ⟨z1, z2, z3, z4, z5, z6, z7⟩ := hJ
   have g3 : aq.tmps.getD 3 undef = .int .i64 (c : Int) := by rw [Array.getD_eq_getD_getElem?, z4 3 (by decide), h3]; rfl
   have g4 : aq.tmps.getD 4 undef = .pointer (some ⟨Be, 0, none⟩) := by rw [Array.getD_eq_getD_getElem?, z4 4 (by decide), h4]; rfl
   have c0 : W.cell? ⟨Be, 0, none⟩ = some (.int .u64 (ww3 x)) := (z5.cell l0).trans k0
   have c1 : W.cell? ⟨Be, 1, none⟩ = some (.int .u64 (ww2 x)) := (z5.cell l1).trans k1
   have c2 : W.cell? ⟨Be, 2, none⟩ = some (.int .u64 (ww1 x)) := (z5.cell l2).trans k2
   have c3 : W.cell? ⟨Be, 3, none⟩ = some (.int .u64 (ww0 x)) := (z5.cell l3).trans k3
   have c4 : W.cell? ⟨Be, 4, none⟩ = some (.int .u64 (ww3 y)) := (z5.cell l4).trans k4
   have c5 : W.cell? ⟨Be, 5, none⟩ = some (.int .u64 (ww2 y)) := (z5.cell l5).trans k5
   have c6 : W.cell? ⟨Be, 6, none⟩ = some (.int .u64 (ww1 y)) := (z5.cell l6).trans k6
   have c7 : W.cell? ⟨Be, 7, none⟩ = some (.int .u64 (ww0 y)) := (z5.cell l7).trans k7
   have c8 : W.cell? ⟨Be, 8, none⟩ = some (.int .u64 (ww3 z)) := (z5.cell l8).trans k8
   have c9 : W.cell? ⟨Be, 9, none⟩ = some (.int .u64 (ww2 z)) := (z5.cell l9).trans k9
   have c10 : W.cell? ⟨Be, 10, none⟩ = some (.int .u64 (ww1 z)) := (z5.cell l10).trans k10
   have c11 : W.cell? ⟨Be, 11, none⟩ = some (.int .u64 (ww0 z)) := (z5.cell l11).trans k11
   have c12 : W.cell? ⟨Be, 12, none⟩ = some (.slice eo m mc) := (z5.cell l12).trans k12
   match iq, ho with
   | 0, ho =>
     cases ho
     refine wpOp_of rfl rfl ?_
     have hK := fun (v : Value) (W2 : World) hW hT hv => hJ2.put hS 0 15 rfl (by omega) (W' := W2) hW hT v hv
     clear ho hall hl hQ
     generalize InvQ _ _ _ w0 a0 (lq.setIfInBounds 0 true) = K at hK ⊢
     clear hJ2 hS z1 z2 z3 z4 z6 z7
     go_simp
     exact hK _ _ z5 (fun _ _ h => h) rfl
   | 1, ho =>
     cases ho
     refine wpOp_of rfl rfl ?_
     have f0 : (aq.tmps.getD 15 undef) = .pointer (some ⟨Be, 0, none⟩) := z6 0 15 (hall ⟨0, .data⟩ (by simp) rfl) rfl
     have hK := fun (v : Value) (W2 : World) hW hT hv => hJ2.put hS 1 16 rfl (by omega) (W' := W2) hW hT v hv
     clear ho hall hl hQ
     generalize InvQ _ _ _ w0 a0 (lq.setIfInBounds 1 true) = K at hK ⊢
     clear hJ2 hS z1 z2 z3 z4 z6 z7
     go_simp
     exact hK _ _ z5 (fun _ _ h => h) rfl
   | 2, ho =>
     cases ho
     refine wpOp_of rfl rfl ?_
     have f1 : (aq.tmps.getD 16 undef) = PV x y z := z6 1 16 (hall ⟨1, .data⟩ (by simp) rfl) rfl
     have hK := fun (v : Value) (W2 : World) hW hT hv => hJ2.put hS 2 17 rfl (by omega) (W' := W2) hW hT v hv
     clear ho hall hl hQ
     generalize InvQ _ _ _ w0 a0 (lq.setIfInBounds 2 true) = K at hK ⊢
     clear hJ2 hS z1 z2 z3 z4 z6 z7
     go_simp
     refine (pright_det x y z ta tb tc W).mono ?_
     rintro e v1 ⟨rfl, hBv⟩
     exact hK _ _ (z5.trans (hBv.mono z5.size)) (fun j v h => h.mono hBv) rfl
   | 3, ho =>
     cases ho
     refine wpOp_of rfl rfl ?_
     have f2 : (aq.tmps.getD 17 undef) = .bool (ptB x y z) := z6 2 17 (hall ⟨2, .data⟩ (by simp) rfl) rfl
     rw [hp] at f2
     have hK := fun (v : Value) (W2 : World) hW hT hv => hJ2.put hS 3 18 rfl (by omega) (W' := W2) hW hT v hv
     clear ho hall hl hQ
     generalize InvQ _ _ _ w0 a0 (lq.setIfInBounds 3 true) = K at hK ⊢
     clear hJ2 hS z1 z2 z3 z4 z6 z7
     go_simp
     exact hK _ _ z5 (fun _ _ h => h) rfl
   | 4, ho =>
     cases ho
     refine wpOp_of rfl rfl ?_
     have f3 : (aq.tmps.getD 18 undef) = .bool true := z6 3 18 (hall ⟨3, .data⟩ (by simp) rfl) rfl
     have hK := fun (v : Value) (W2 : World) hW hT hv => hJ2.put hS 4 19 rfl (by omega) (W' := W2) hW hT v hv
     clear ho hall hl hQ
     generalize InvQ _ _ _ w0 a0 (lq.setIfInBounds 4 true) = K at hK ⊢
     clear hJ2 hS z1 z2 z3 z4 z6 z7
     go_simp
     exact hK _ _ z5 (fun _ _ h => h) rfl
   | 5, ho =>
     cases ho
     have fg : aq.tmps.getD 19 undef = .bool true := z6 4 19 (hall ⟨4, .guard⟩ (by simp) rfl) rfl
     refine wpOp_off rfl rfl rfl rfl fg ?_
     exact hJ2.put hS 5 20 rfl (by omega) z5 (fun _ _ h => h) undef rfl
   | 6, ho =>
     cases ho
     have fg : aq.tmps.getD 19 undef = .bool true := z6 4 19 (hall ⟨4, .guard⟩ (by simp) rfl) rfl
     refine wpOp_off rfl rfl rfl rfl fg ?_
     exact hJ2.put hS 6 21 rfl (by omega) z5 (fun _ _ h => h) undef rfl
   | 7, ho =>
     cases ho
     have fg : aq.tmps.getD 19 undef = .bool true := z6 4 19 (hall ⟨4, .guard⟩ (by simp) rfl) rfl
     refine wpOp_off rfl rfl rfl rfl fg ?_
     exact hJ2.put hS 7 22 rfl (by omega) z5 (fun _ _ h => h) undef rfl
   | 8, ho =>
     cases ho
     have fg : aq.tmps.getD 19 undef = .bool true := z6 4 19 (hall ⟨4, .guard⟩ (by simp) rfl) rfl
     refine wpOp_off rfl rfl rfl rfl fg ?_
     exact hJ2.put hS 8 23 rfl (by omega) z5 (fun _ _ h => h) undef rfl
   | 9, ho =>
     cases ho
     refine wpOp_of rfl rfl ?_
     have f4 : (aq.tmps.getD 19 undef) = .bool true := z6 4 19 (hall ⟨4, .data⟩ (by simp) rfl) rfl
     have f8 : (aq.tmps.getD 23 undef) = undef := z6 8 23 (hall ⟨8, .data⟩ (by simp) rfl) rfl
     have hK := fun (v : Value) (W2 : World) hW hT hv => hJ2.put hS 9 24 rfl (by omega) (W' := W2) hW hT v hv
     clear ho hall hl hQ
     generalize InvQ _ _ _ w0 a0 (lq.setIfInBounds 9 true) = K at hK ⊢
     clear hJ2 hS z1 z2 z3 z4 z6 z7
     go_simp
     exact hK _ _ z5 (fun _ _ h => h) rfl
   | 10, ho =>
     cases ho
     refine wpOp_of rfl rfl ?_
     have f9 : (aq.tmps.getD 24 undef) = .bool true := z6 9 24 (hall ⟨9, .data⟩ (by simp) rfl) rfl
     have hK := fun (v : Value) (W2 : World) hW hT hv => hJ2.put hS 10 25 rfl (by omega) (W' := W2) hW hT v hv
     clear ho hall hl hQ
     generalize InvQ _ _ _ w0 a0 (lq.setIfInBounds 10 true) = K at hK ⊢
     clear hJ2 hS z1 z2 z3 z4 z6 z7
     go_simp
     exact hK _ _ z5 (fun _ _ h => h) rfl
   | 11, ho =>
     cases ho
     have fg : aq.tmps.getD 25 undef = .bool true := z6 10 25 (hall ⟨10, .guard⟩ (by simp) rfl) rfl
     refine wpOp_off rfl rfl rfl rfl fg ?_
     exact hJ2.put hS 11 26 rfl (by omega) z5 (fun _ _ h => h) undef rfl
   | 12, ho =>
     cases ho
     have fg : aq.tmps.getD 25 undef = .bool true := z6 10 25 (hall ⟨10, .guard⟩ (by simp) rfl) rfl
     refine wpOp_off rfl rfl rfl rfl fg ?_
     exact hJ2.put hS 12 27 rfl (by omega) z5 (fun _ _ h => h) undef rfl
   | 13, ho =>
     cases ho
     have fg : aq.tmps.getD 25 undef = .bool true := z6 10 25 (hall ⟨10, .guard⟩ (by simp) rfl) rfl
     refine wpOp_off rfl rfl rfl rfl fg ?_
     exact hJ2.put hS 13 28 rfl (by omega) z5 (fun _ _ h => h) undef rfl
   | 14, ho =>
     cases ho
     have fg : aq.tmps.getD 28 undef = undef := z6 13 28 (hall ⟨13, .guard⟩ (by simp) rfl) rfl
     refine wpOp_offu rfl rfl rfl rfl fg ?_
     exact hJ2.put hS 14 29 rfl (by omega) z5 (fun _ _ h => h) undef rfl
   | 15, ho =>
     cases ho
     have fg : aq.tmps.getD 28 undef = undef := z6 13 28 (hall ⟨13, .guard⟩ (by simp) rfl) rfl
     refine wpOp_offu rfl rfl rfl rfl fg ?_
     exact hJ2.put hS 15 30 rfl (by omega) z5 (fun _ _ h => h) undef rfl
   | 16, ho =>
     cases ho
     have fg : aq.tmps.getD 28 undef = undef := z6 13 28 (hall ⟨13, .guard⟩ (by simp) rfl) rfl
     refine wpOp_offu rfl rfl rfl rfl fg ?_
     exact hJ2.put hS 16 31 rfl (by omega) z5 (fun _ _ h => h) undef rfl
   | 17, ho =>
     cases ho
     have fg : aq.tmps.getD 28 undef = undef := z6 13 28 (hall ⟨13, .guard⟩ (by simp) rfl) rfl
     refine wpOp_offu rfl rfl rfl rfl fg ?_
     exact hJ2.put hS 17 32 rfl (by omega) z5 (fun _ _ h => h) undef rfl
   | 18, ho =>
     cases ho
     have fg : aq.tmps.getD 28 undef = undef := z6 13 28 (hall ⟨13, .guard⟩ (by simp) rfl) rfl
     refine wpOp_offu rfl rfl rfl rfl fg ?_
     exact hJ2.put hS 18 33 rfl (by omega) z5 (fun _ _ h => h) undef rfl
   | 19, ho =>
     cases ho
     have fg : aq.tmps.getD 28 undef = undef := z6 13 28 (hall ⟨13, .guard⟩ (by simp) rfl) rfl
     refine wpOp_offu rfl rfl rfl rfl fg ?_
     exact hJ2.put hS 19 34 rfl (by omega) z5 (fun _ _ h => h) undef rfl
   | 20, ho =>
     cases ho
     have fg : aq.tmps.getD 28 undef = undef := z6 13 28 (hall ⟨13, .guard⟩ (by simp) rfl) rfl
     refine wpOp_offu rfl rfl rfl rfl fg ?_
     exact hJ2.put hS 20 35 rfl (by omega) z5 (fun _ _ h => h) undef rfl
   | 21, ho =>
     cases ho
     have fg : aq.tmps.getD 28 undef = undef := z6 13 28 (hall ⟨13, .guard⟩ (by simp) rfl) rfl
     refine wpOp_offu rfl rfl rfl rfl fg ?_
     exact hJ2.put hS 21 36 rfl (by omega) z5 (fun _ _ h => h) undef rfl
   | 22, ho =>
     cases ho
     have fg : aq.tmps.getD 28 undef = undef := z6 13 28 (hall ⟨13, .guard⟩ (by simp) rfl) rfl
     refine wpOp_offu rfl rfl rfl rfl fg ?_
     exact hJ2.put hS 22 37 rfl (by omega) z5 (fun _ _ h => h) undef rfl
   | 23, ho =>
     cases ho
     have fg : aq.tmps.getD 28 undef = undef := z6 13 28 (hall ⟨13, .guard⟩ (by simp) rfl) rfl
     refine wpOp_offu rfl rfl rfl rfl fg ?_
     exact hJ2.put hS 23 38 rfl (by omega) z5 (fun _ _ h => h) undef rfl
   | 24, ho =>
     cases ho
     have fg : aq.tmps.getD 25 undef = .bool true := z6 10 25 (hall ⟨10, .guard⟩ (by simp) rfl) rfl
     refine wpOp_off rfl rfl rfl rfl fg ?_
     exact hJ2.put hS 24 39 rfl (by omega) z5 (fun _ _ h => h) undef rfl
   | 25, ho =>
     cases ho
     refine wpOp_of rfl rfl ?_
     have f10 : (aq.tmps.getD 25 undef) = .bool true := z6 10 25 (hall ⟨10, .data⟩ (by simp) rfl) rfl
     have f24 : (aq.tmps.getD 39 undef) = undef := z6 24 39 (hall ⟨24, .data⟩ (by simp) rfl) rfl
     have hK := fun (v : Value) (W2 : World) hW hT hv => hJ2.put hS 25 40 rfl (by omega) (W' := W2) hW hT v hv
     clear ho hall hl hQ
     generalize InvQ _ _ _ w0 a0 (lq.setIfInBounds 25 true) = K at hK ⊢
     clear hJ2 hS z1 z2 z3 z4 z6 z7
     go_simp
     exact hK _ _ z5 (fun _ _ h => h) rfl
   | iq + 26, ho => simp at ho
 · intro lq aq W hJ hr
   obtain ⟨z1, z2, z3, z4, z5, z6, z7⟩ := hJ
   have hl := listed_of hr [0, 1, 2, 3, 4, 5, 6, 7, 8, 9, 10, 11, 12, 13, 14, 15, 16, 17, 18, 19, 20, 21, 22, 23, 24, 25] [] (by simp) (by kernel_rfl) (by rw [z1]; decide)
   exact hQ aq W z2 z3 (fun e he => z4 e (by simpa using he)) (z6 25 40 (hl 25 (by simp)) rfl) z5
def VevI_B (m mc : Nat) (Be : Nat) (eo : Option Addr) (x y z : Int) (_B : Nat) : Nat → Value → World → Prop
 | 0, v, _ => v = .pointer (some ⟨Be, 0, none⟩)
 | 1, v, _ => v = PV x y z
 | 2, v, _ => v = .bool (ptB x y z)
 | 3, v, _ => v = .bool false
 | 4, v, _ => v = .bool false
 | 5, v, _ => v = .pointer (some ⟨Be, 12, none⟩)
 | 6, v, _ => v = .slice eo m mc
 | 7, v, _ => v = .bool false
 | 8, v, _ => v = .bool true
 | 9, v, _ => v = .bool true
 | 10, v, _ => v = .bool true
 | 11, v, _ => v = undef
 | 12, v, _ => v = undef
 | 13, v, _ => v = undef
 | 14, v, _ => v = undef
 | 15, v, _ => v = undef
 | 16, v, _ => v = undef
 | 17, v, _ => v = undef
 | 18, v, _ => v = undef
 | 19, v, _ => v = undef
 | 20, v, _ => v = undef
 | 21, v, _ => v = undef
 | 22, v, _ => v = undef
 | 23, v, _ => v = undef
 | 24, v, _ => v = undef
 | 25, v, _ => v = .bool true
 | _, _, _ => True
theorem VevI_B.mono {m mc : Nat} {Be : Nat} {eo : Option Addr} {x y z : Int} {B j : Nat} {v : Value} {W W2 : World} (_hB : Below W.heap.size W W2) (h : VevI_B m mc Be eo x y z B j v W) : VevI_B m mc Be eo x y z B j v W2 := by
 unfold VevI_B at *
 split <;> simp only at h <;> first | exact h | trivial
theorem evI_B {Q : Exit → Act → World → Prop} {m mc : Nat} {Be : Nat} {eo : Option Addr} {x y z : Int} {c : Nat} {xs : Nat → Int} {w0 : World} {a0 : Act} {idq : Nat} {t0 t1 t2 t3 t4 t5 t6 t7 t8 t9 t10 t11 t12 t13 t14 t15 t16 t17 t18 t19 t20 t21 t22 t23 t24 t25 : TypeId} {q0 q1 q2 q3 q4 q5 q6 q7 q8 q9 q10 q11 q12 q13 q14 q15 q16 q17 q18 q19 q20 q21 q22 q23 q24 q25 : String}
   (ta : told x = true) (tb : told y = true) (tc : told z = true) (hp : ptB x y z = true) (hNo : NoIn w0 eo m xs) (hre : ∀ W, NoIn W eo m xs → Calls Tryz.prog 70 #[.slice eo m mc] W (VP (.bool false) W)) (h3 : a0.tmps[3]? = some (.int .i64 (c : Int))) (h4 : a0.tmps[4]? = some (.pointer (some ⟨Be, 0, none⟩))) (k0 : w0.cell? ⟨Be, 0, none⟩ = some (.int .u64 (ww3 x))) (l0 : (⟨Be, 0, none⟩ : Addr).block < w0.heap.size) (k1 : w0.cell? ⟨Be, 1, none⟩ = some (.int .u64 (ww2 x))) (l1 : (⟨Be, 1, none⟩ : Addr).block < w0.heap.size) (k2 : w0.cell? ⟨Be, 2, none⟩ = some (.int .u64 (ww1 x))) (l2 : (⟨Be, 2, none⟩ : Addr).block < w0.heap.size) (k3 : w0.cell? ⟨Be, 3, none⟩ = some (.int .u64 (ww0 x))) (l3 : (⟨Be, 3, none⟩ : Addr).block < w0.heap.size) (k4 : w0.cell? ⟨Be, 4, none⟩ = some (.int .u64 (ww3 y))) (l4 : (⟨Be, 4, none⟩ : Addr).block < w0.heap.size) (k5 : w0.cell? ⟨Be, 5, none⟩ = some (.int .u64 (ww2 y))) (l5 : (⟨Be, 5, none⟩ : Addr).block < w0.heap.size) (k6 : w0.cell? ⟨Be, 6, none⟩ = some (.int .u64 (ww1 y))) (l6 : (⟨Be, 6, none⟩ : Addr).block < w0.heap.size) (k7 : w0.cell? ⟨Be, 7, none⟩ = some (.int .u64 (ww0 y))) (l7 : (⟨Be, 7, none⟩ : Addr).block < w0.heap.size) (k8 : w0.cell? ⟨Be, 8, none⟩ = some (.int .u64 (ww3 z))) (l8 : (⟨Be, 8, none⟩ : Addr).block < w0.heap.size) (k9 : w0.cell? ⟨Be, 9, none⟩ = some (.int .u64 (ww2 z))) (l9 : (⟨Be, 9, none⟩ : Addr).block < w0.heap.size) (k10 : w0.cell? ⟨Be, 10, none⟩ = some (.int .u64 (ww1 z))) (l10 : (⟨Be, 10, none⟩ : Addr).block < w0.heap.size) (k11 : w0.cell? ⟨Be, 11, none⟩ = some (.int .u64 (ww0 z))) (l11 : (⟨Be, 11, none⟩ : Addr).block < w0.heap.size) (k12 : w0.cell? ⟨Be, 12, none⟩ = some (.slice eo m mc)) (l12 : (⟨Be, 12, none⟩ : Addr).block < w0.heap.size) (hz : a0.tmps.size = 42)
   (hQ : ∀ aq W, aq.tmps.size = a0.tmps.size → aq.defers = a0.defers → (∀ e, e ∉ ([15, 16, 17, 18, 19, 20, 21, 22, 23, 24, 25, 26, 27, 28, 29, 30, 31, 32, 33, 34, 35, 36, 37, 38, 39, 40] : List Nat) → aq.tmps[e]? = a0.tmps[e]?) → VevI_B m mc Be eo x y z w0.heap.size 25 (aq.tmps.getD 40 undef) W → Below w0.heap.size w0 W → Q .normal aq W) :
   (Code.region idq #[{ dst := some 15, op := Op.fieldAddr 81 (.tmp 4) 0, type := t0, pos := q0, after := #[], guard := none },
   { dst := some 16, op := Op.load 35 (.tmp 15), type := t1, pos := q1, after := #[⟨0, .data⟩], guard := none },
   { dst := some 17, op := Op.call { callee := Callee.value (Operand.func 29), args := #[.tmp 16], argTypes := #[35] }, type := t2, pos := q2, after := #[⟨1, .data⟩], guard := none },
   { dst := some 18, op := Op.unOp UnOp.not 4 (.tmp 17), type := t3, pos := q3, after := #[⟨2, .data⟩], guard := none },
   { dst := some 19, op := Op.move (.tmp 18), type := t4, pos := q4, after := #[⟨3, .data⟩, ⟨2, .chain⟩], guard := none },
   { dst := some 20, op := Op.fieldAddr 81 (.tmp 4) 1, type := t5, pos := q5, after := #[⟨4, .guard⟩], guard := some (4, false) },
   { dst := some 21, op := Op.load 29 (.tmp 20), type := t6, pos := q6, after := #[⟨5, .data⟩, ⟨4, .guard⟩], guard := some (4, false) },
   { dst := some 22, op := Op.call { callee := Callee.value (Operand.func 70), args := #[.tmp 21], argTypes := #[29] }, type := t7, pos := q7, after := #[⟨6, .data⟩, ⟨4, .chain⟩, ⟨4, .guard⟩], guard := some (4, false) },
   { dst := some 23, op := Op.unOp UnOp.not 4 (.tmp 22), type := t8, pos := q8, after := #[⟨7, .data⟩, ⟨4, .guard⟩], guard := some (4, false) },
   { dst := some 24, op := Op.pick (.tmp 19) (Operand.const (Value.bool true)) (.tmp 23), type := t9, pos := q9, after := #[⟨4, .data⟩, ⟨8, .data⟩], guard := none },
   { dst := some 25, op := Op.move (.tmp 24), type := t10, pos := q10, after := #[⟨9, .data⟩, ⟨7, .chain⟩], guard := none },
   { dst := some 26, op := Op.move (.tmp 3), type := t11, pos := q11, after := #[⟨10, .guard⟩], guard := some (10, false) },
   { dst := some 27, op := Op.binOp BinOp.gtr 3 (.tmp 26) (Operand.const (Value.int IntKind.i64 0)) 3, type := t12, pos := q12, after := #[⟨11, .data⟩, ⟨10, .guard⟩], guard := some (10, false) },
   { dst := some 28, op := Op.move (.tmp 27), type := t13, pos := q13, after := #[⟨12, .data⟩, ⟨10, .chain⟩, ⟨10, .guard⟩], guard := some (10, false) },
   { dst := some 29, op := Op.move (.tmp 0), type := t14, pos := q14, after := #[⟨13, .guard⟩], guard := some (13, true) },
   { dst := some 30, op := Op.move (.tmp 3), type := t15, pos := q15, after := #[⟨13, .guard⟩], guard := some (13, true) },
   { dst := some 31, op := Op.binOp BinOp.sub 3 (.tmp 30) (Operand.const (Value.int IntKind.i64 1)) 3, type := t16, pos := q16, after := #[⟨15, .data⟩, ⟨13, .guard⟩], guard := some (13, true) },
   { dst := some 32, op := Op.indexAddr 44 (.tmp 29) (.tmp 31), type := t17, pos := q17, after := #[⟨14, .data⟩, ⟨16, .data⟩, ⟨13, .guard⟩], guard := some (13, true) },
   { dst := some 33, op := Op.fieldAddr 81 (.tmp 32) 0, type := t18, pos := q18, after := #[⟨17, .data⟩, ⟨13, .guard⟩], guard := some (13, true) },
   { dst := some 34, op := Op.load 35 (.tmp 33), type := t19, pos := q19, after := #[⟨18, .data⟩, ⟨13, .guard⟩], guard := some (13, true) },
   { dst := some 35, op := Op.fieldAddr 81 (.tmp 4) 0, type := t20, pos := q20, after := #[⟨13, .guard⟩], guard := some (13, true) },
   { dst := some 36, op := Op.load 35 (.tmp 35), type := t21, pos := q21, after := #[⟨20, .data⟩, ⟨13, .guard⟩], guard := some (13, true) },
   { dst := some 37, op := Op.call { callee := Callee.value (Operand.func 71), args := #[.tmp 34, .tmp 36], argTypes := #[35, 35] }, type := t22, pos := q22, after := #[⟨19, .data⟩, ⟨21, .data⟩, ⟨13, .chain⟩, ⟨13, .guard⟩], guard := some (13, true) },
   { dst := some 38, op := Op.binOp BinOp.geq 2 (.tmp 37) (Operand.const (Value.int IntKind.i64 0)) 2, type := t23, pos := q23, after := #[⟨22, .data⟩, ⟨13, .guard⟩], guard := some (13, true) },
   { dst := some 39, op := Op.pick (.tmp 28) (.tmp 38) (Operand.const (Value.bool false)), type := t24, pos := q24, after := #[⟨13, .data⟩, ⟨23, .data⟩, ⟨10, .guard⟩], guard := some (10, false) },
   { dst := some 40, op := Op.pick (.tmp 25) (Operand.const (Value.bool true)) (.tmp 39), type := t25, pos := q25, after := #[⟨10, .data⟩, ⟨24, .data⟩], guard := none }] true).wp Tryz.prog Q a0 w0 := by
 have hS : distS [some 15, some 16, some 17, some 18, some 19, some 20, some 21, some 22, some 23, some 24, some 25, some 26, some 27, some 28, some 29, some 30, some 31, some 32, some 33, some 34, some 35, some 36, some 37, some 38, some 39, some 40] = true := rfl
 refine wp_region_q (by kernel_rfl) w0.heap.size [some 15, some 16, some 17, some 18, some 19, some 20, some 21, some 22, some 23, some 24, some 25, some 26, some 27, some 28, some 29, some 30, some 31, some 32, some 33, some 34, some 35, some 36, some 37, some 38, some 39, some 40] (VevI_B m mc Be eo x y z w0.heap.size) rfl ?_ ?_
 · intro Q lq aq W iq oq hJ hl ho hall
   have hJ2 := hJ
   obtain ⟨z1, z2, z3, z4, z5, z6, z7⟩ := hJ
   have g3 : aq.tmps.getD 3 undef = .int .i64 (c : Int) := by rw [Array.getD_eq_getD_getElem?, z4 3 (by decide), h3]; rfl
   have g4 : aq.tmps.getD 4 undef = .pointer (some ⟨Be, 0, none⟩) := by rw [Array.getD_eq_getD_getElem?, z4 4 (by decide), h4]; rfl
   have c0 : W.cell? ⟨Be, 0, none⟩ = some (.int .u64 (ww3 x)) := (z5.cell l0).trans k0
   have c1 : W.cell? ⟨Be, 1, none⟩ = some (.int .u64 (ww2 x)) := (z5.cell l1).trans k1
   have c2 : W.cell? ⟨Be, 2, none⟩ = some (.int .u64 (ww1 x)) := (z5.cell l2).trans k2
   have c3 : W.cell? ⟨Be, 3, none⟩ = some (.int .u64 (ww0 x)) := (z5.cell l3).trans k3
   have c4 : W.cell? ⟨Be, 4, none⟩ = some (.int .u64 (ww3 y)) := (z5.cell l4).trans k4
   have c5 : W.cell? ⟨Be, 5, none⟩ = some (.int .u64 (ww2 y)) := (z5.cell l5).trans k5
   have c6 : W.cell? ⟨Be, 6, none⟩ = some (.int .u64 (ww1 y)) := (z5.cell l6).trans k6
   have c7 : W.cell? ⟨Be, 7, none⟩ = some (.int .u64 (ww0 y)) := (z5.cell l7).trans k7
   have c8 : W.cell? ⟨Be, 8, none⟩ = some (.int .u64 (ww3 z)) := (z5.cell l8).trans k8
   have c9 : W.cell? ⟨Be, 9, none⟩ = some (.int .u64 (ww2 z)) := (z5.cell l9).trans k9
   have c10 : W.cell? ⟨Be, 10, none⟩ = some (.int .u64 (ww1 z)) := (z5.cell l10).trans k10
   have c11 : W.cell? ⟨Be, 11, none⟩ = some (.int .u64 (ww0 z)) := (z5.cell l11).trans k11
   have c12 : W.cell? ⟨Be, 12, none⟩ = some (.slice eo m mc) := (z5.cell l12).trans k12
   match iq, ho with
   | 0, ho =>
     cases ho
     refine wpOp_of rfl rfl ?_
     have hK := fun (v : Value) (W2 : World) hW hT hv => hJ2.put hS 0 15 rfl (by omega) (W' := W2) hW hT v hv
     clear ho hall hl hQ
     generalize InvQ _ _ _ w0 a0 (lq.setIfInBounds 0 true) = K at hK ⊢
     clear hJ2 hS z1 z2 z3 z4 z6 z7
     go_simp
     exact hK _ _ z5 (fun _ _ h => h) rfl
   | 1, ho =>
     cases ho
     refine wpOp_of rfl rfl ?_
     have f0 : (aq.tmps.getD 15 undef) = .pointer (some ⟨Be, 0, none⟩) := z6 0 15 (hall ⟨0, .data⟩ (by simp) rfl) rfl
     have hK := fun (v : Value) (W2 : World) hW hT hv => hJ2.put hS 1 16 rfl (by omega) (W' := W2) hW hT v hv
     clear ho hall hl hQ
     generalize InvQ _ _ _ w0 a0 (lq.setIfInBounds 1 true) = K at hK ⊢
     clear hJ2 hS z1 z2 z3 z4 z6 z7
     go_simp
     exact hK _ _ z5 (fun _ _ h => h) rfl
   | 2, ho =>
     cases ho
     refine wpOp_of rfl rfl ?_
     have f1 : (aq.tmps.getD 16 undef) = PV x y z := z6 1 16 (hall ⟨1, .data⟩ (by simp) rfl) rfl
     have hK := fun (v : Value) (W2 : World) hW hT hv => hJ2.put hS 2 17 rfl (by omega) (W' := W2) hW hT v hv
     clear ho hall hl hQ
     generalize InvQ _ _ _ w0 a0 (lq.setIfInBounds 2 true) = K at hK ⊢
     clear hJ2 hS z1 z2 z3 z4 z6 z7
     go_simp
     refine (pright_det x y z ta tb tc W).mono ?_
     rintro e v1 ⟨rfl, hBv⟩
     exact hK _ _ (z5.trans (hBv.mono z5.size)) (fun j v h => h.mono hBv) rfl
   | 3, ho =>
     cases ho
     refine wpOp_of rfl rfl ?_
     have f2 : (aq.tmps.getD 17 undef) = .bool (ptB x y z) := z6 2 17 (hall ⟨2, .data⟩ (by simp) rfl) rfl
     rw [hp] at f2
     have hK := fun (v : Value) (W2 : World) hW hT hv => hJ2.put hS 3 18 rfl (by omega) (W' := W2) hW hT v hv
     clear ho hall hl hQ
     generalize InvQ _ _ _ w0 a0 (lq.setIfInBounds 3 true) = K at hK ⊢
     clear hJ2 hS z1 z2 z3 z4 z6 z7
     go_simp
     exact hK _ _ z5 (fun _ _ h => h) rfl
   | 4, ho =>
     cases ho
     refine wpOp_of rfl rfl ?_
     have f3 : (aq.tmps.getD 18 undef) = .bool false := z6 3 18 (hall ⟨3, .data⟩ (by simp) rfl) rfl
     have hK := fun (v : Value) (W2 : World) hW hT hv => hJ2.put hS 4 19 rfl (by omega) (W' := W2) hW hT v hv
     clear ho hall hl hQ
     generalize InvQ _ _ _ w0 a0 (lq.setIfInBounds 4 true) = K at hK ⊢
     clear hJ2 hS z1 z2 z3 z4 z6 z7
     go_simp
     exact hK _ _ z5 (fun _ _ h => h) rfl
   | 5, ho =>
     cases ho
     have fg : aq.tmps.getD 19 undef = .bool false := z6 4 19 (hall ⟨4, .guard⟩ (by simp) rfl) rfl
     refine wpOp_on rfl rfl rfl rfl fg ?_
     have hK := fun (v : Value) (W2 : World) hW hT hv => hJ2.put hS 5 20 rfl (by omega) (W' := W2) hW hT v hv
     clear ho hall hl hQ
     generalize InvQ _ _ _ w0 a0 (lq.setIfInBounds 5 true) = K at hK ⊢
     clear hJ2 hS z1 z2 z3 z4 z6 z7
     go_simp
     exact hK _ _ z5 (fun _ _ h => h) rfl
   | 6, ho =>
     cases ho
     have fg : aq.tmps.getD 19 undef = .bool false := z6 4 19 (hall ⟨4, .guard⟩ (by simp) rfl) rfl
     refine wpOp_on rfl rfl rfl rfl fg ?_
     have f5 : (aq.tmps.getD 20 undef) = .pointer (some ⟨Be, 12, none⟩) := z6 5 20 (hall ⟨5, .data⟩ (by simp) rfl) rfl
     have hK := fun (v : Value) (W2 : World) hW hT hv => hJ2.put hS 6 21 rfl (by omega) (W' := W2) hW hT v hv
     clear ho hall hl hQ
     generalize InvQ _ _ _ w0 a0 (lq.setIfInBounds 6 true) = K at hK ⊢
     clear hJ2 hS z1 z2 z3 z4 z6 z7
     go_simp
     exact hK _ _ z5 (fun _ _ h => h) rfl
   | 7, ho =>
     cases ho
     have fg : aq.tmps.getD 19 undef = .bool false := z6 4 19 (hall ⟨4, .guard⟩ (by simp) rfl) rfl
     refine wpOp_on rfl rfl rfl rfl fg ?_
     have f6 : (aq.tmps.getD 21 undef) = .slice eo m mc := z6 6 21 (hall ⟨6, .data⟩ (by simp) rfl) rfl
     have hK := fun (v : Value) (W2 : World) hW hT hv => hJ2.put hS 7 22 rfl (by omega) (W' := W2) hW hT v hv
     clear ho hall hl hQ
     generalize InvQ _ _ _ w0 a0 (lq.setIfInBounds 7 true) = K at hK ⊢
     clear hJ2 hS z1 z2 z3 z4 z6 z7
     go_simp
     refine (hre W (hNo.step z5)).mono ?_
     rintro e v1 ⟨rfl, hBv⟩
     exact hK _ _ (z5.trans (hBv.mono z5.size)) (fun j v h => h.mono hBv) rfl
   | 8, ho =>
     cases ho
     have fg : aq.tmps.getD 19 undef = .bool false := z6 4 19 (hall ⟨4, .guard⟩ (by simp) rfl) rfl
     refine wpOp_on rfl rfl rfl rfl fg ?_
     have f7 : (aq.tmps.getD 22 undef) = .bool false := z6 7 22 (hall ⟨7, .data⟩ (by simp) rfl) rfl
     have hK := fun (v : Value) (W2 : World) hW hT hv => hJ2.put hS 8 23 rfl (by omega) (W' := W2) hW hT v hv
     clear ho hall hl hQ
     generalize InvQ _ _ _ w0 a0 (lq.setIfInBounds 8 true) = K at hK ⊢
     clear hJ2 hS z1 z2 z3 z4 z6 z7
     go_simp
     exact hK _ _ z5 (fun _ _ h => h) rfl
   | 9, ho =>
     cases ho
     refine wpOp_of rfl rfl ?_
     have f4 : (aq.tmps.getD 19 undef) = .bool false := z6 4 19 (hall ⟨4, .data⟩ (by simp) rfl) rfl
     have f8 : (aq.tmps.getD 23 undef) = .bool true := z6 8 23 (hall ⟨8, .data⟩ (by simp) rfl) rfl
     have hK := fun (v : Value) (W2 : World) hW hT hv => hJ2.put hS 9 24 rfl (by omega) (W' := W2) hW hT v hv
     clear ho hall hl hQ
     generalize InvQ _ _ _ w0 a0 (lq.setIfInBounds 9 true) = K at hK ⊢
     clear hJ2 hS z1 z2 z3 z4 z6 z7
     go_simp
     exact hK _ _ z5 (fun _ _ h => h) rfl
   | 10, ho =>
     cases ho
     refine wpOp_of rfl rfl ?_
     have f9 : (aq.tmps.getD 24 undef) = .bool true := z6 9 24 (hall ⟨9, .data⟩ (by simp) rfl) rfl
     have hK := fun (v : Value) (W2 : World) hW hT hv => hJ2.put hS 10 25 rfl (by omega) (W' := W2) hW hT v hv
     clear ho hall hl hQ
     generalize InvQ _ _ _ w0 a0 (lq.setIfInBounds 10 true) = K at hK ⊢
     clear hJ2 hS z1 z2 z3 z4 z6 z7
     go_simp
     exact hK _ _ z5 (fun _ _ h => h) rfl
   | 11, ho =>
     cases ho
     have fg : aq.tmps.getD 25 undef = .bool true := z6 10 25 (hall ⟨10, .guard⟩ (by simp) rfl) rfl
     refine wpOp_off rfl rfl rfl rfl fg ?_
     exact hJ2.put hS 11 26 rfl (by omega) z5 (fun _ _ h => h) undef rfl
   | 12, ho =>
     cases ho
     have fg : aq.tmps.getD 25 undef = .bool true := z6 10 25 (hall ⟨10, .guard⟩ (by simp) rfl) rfl
     refine wpOp_off rfl rfl rfl rfl fg ?_
     exact hJ2.put hS 12 27 rfl (by omega) z5 (fun _ _ h => h) undef rfl
   | 13, ho =>
     cases ho
     have fg : aq.tmps.getD 25 undef = .bool true := z6 10 25 (hall ⟨10, .guard⟩ (by simp) rfl) rfl
     refine wpOp_off rfl rfl rfl rfl fg ?_
     exact hJ2.put hS 13 28 rfl (by omega) z5 (fun _ _ h => h) undef rfl
   | 14, ho =>
     cases ho
     have fg : aq.tmps.getD 28 undef = undef := z6 13 28 (hall ⟨13, .guard⟩ (by simp) rfl) rfl
     refine wpOp_offu rfl rfl rfl rfl fg ?_
     exact hJ2.put hS 14 29 rfl (by omega) z5 (fun _ _ h => h) undef rfl
   | 15, ho =>
     cases ho
     have fg : aq.tmps.getD 28 undef = undef := z6 13 28 (hall ⟨13, .guard⟩ (by simp) rfl) rfl
     refine wpOp_offu rfl rfl rfl rfl fg ?_
     exact hJ2.put hS 15 30 rfl (by omega) z5 (fun _ _ h => h) undef rfl
   | 16, ho =>
     cases ho
     have fg : aq.tmps.getD 28 undef = undef := z6 13 28 (hall ⟨13, .guard⟩ (by simp) rfl) rfl
     refine wpOp_offu rfl rfl rfl rfl fg ?_
     exact hJ2.put hS 16 31 rfl (by omega) z5 (fun _ _ h => h) undef rfl
   | 17, ho =>
     cases ho
     have fg : aq.tmps.getD 28 undef = undef := z6 13 28 (hall ⟨13, .guard⟩ (by simp) rfl) rfl
     refine wpOp_offu rfl rfl rfl rfl fg ?_
     exact hJ2.put hS 17 32 rfl (by omega) z5 (fun _ _ h => h) undef rfl
   | 18, ho =>
     cases ho
     have fg : aq.tmps.getD 28 undef = undef := z6 13 28 (hall ⟨13, .guard⟩ (by simp) rfl) rfl
     refine wpOp_offu rfl rfl rfl rfl fg ?_
     exact hJ2.put hS 18 33 rfl (by omega) z5 (fun _ _ h => h) undef rfl
   | 19, ho =>
     cases ho
     have fg : aq.tmps.getD 28 undef = undef := z6 13 28 (hall ⟨13, .guard⟩ (by simp) rfl) rfl
     refine wpOp_offu rfl rfl rfl rfl fg ?_
     exact hJ2.put hS 19 34 rfl (by omega) z5 (fun _ _ h => h) undef rfl
   | 20, ho =>
     cases ho
     have fg : aq.tmps.getD 28 undef = undef := z6 13 28 (hall ⟨13, .guard⟩ (by simp) rfl) rfl
     refine wpOp_offu rfl rfl rfl rfl fg ?_
     exact hJ2.put hS 20 35 rfl (by omega) z5 (fun _ _ h => h) undef rfl
   | 21, ho =>
     cases ho
     have fg : aq.tmps.getD 28 undef = undef := z6 13 28 (hall ⟨13, .guard⟩ (by simp) rfl) rfl
     refine wpOp_offu rfl rfl rfl rfl fg ?_
     exact hJ2.put hS 21 36 rfl (by omega) z5 (fun _ _ h => h) undef rfl
   | 22, ho =>
     cases ho
     have fg : aq.tmps.getD 28 undef = undef := z6 13 28 (hall ⟨13, .guard⟩ (by simp) rfl) rfl
     refine wpOp_offu rfl rfl rfl rfl fg ?_
     exact hJ2.put hS 22 37 rfl (by omega) z5 (fun _ _ h => h) undef rfl
   | 23, ho =>
     cases ho
     have fg : aq.tmps.getD 28 undef = undef := z6 13 28 (hall ⟨13, .guard⟩ (by simp) rfl) rfl
     refine wpOp_offu rfl rfl rfl rfl fg ?_
     exact hJ2.put hS 23 38 rfl (by omega) z5 (fun _ _ h => h) undef rfl
   | 24, ho =>
     cases ho
     have fg : aq.tmps.getD 25 undef = .bool true := z6 10 25 (hall ⟨10, .guard⟩ (by simp) rfl) rfl
     refine wpOp_off rfl rfl rfl rfl fg ?_
     exact hJ2.put hS 24 39 rfl (by omega) z5 (fun _ _ h => h) undef rfl
   | 25, ho =>
     cases ho
     refine wpOp_of rfl rfl ?_
     have f10 : (aq.tmps.getD 25 undef) = .bool true := z6 10 25 (hall ⟨10, .data⟩ (by simp) rfl) rfl
     have f24 : (aq.tmps.getD 39 undef) = undef := z6 24 39 (hall ⟨24, .data⟩ (by simp) rfl) rfl
     have hK := fun (v : Value) (W2 : World) hW hT hv => hJ2.put hS 25 40 rfl (by omega) (W' := W2) hW hT v hv
     clear ho hall hl hQ
     generalize InvQ _ _ _ w0 a0 (lq.setIfInBounds 25 true) = K at hK ⊢
     clear hJ2 hS z1 z2 z3 z4 z6 z7
     go_simp
     exact hK _ _ z5 (fun _ _ h => h) rfl
   | iq + 26, ho => simp at ho
 · intro lq aq W hJ hr
   obtain ⟨z1, z2, z3, z4, z5, z6, z7⟩ := hJ
   have hl := listed_of hr [0, 1, 2, 3, 4, 5, 6, 7, 8, 9, 10, 11, 12, 13, 14, 15, 16, 17, 18, 19, 20, 21, 22, 23, 24, 25] [] (by simp) (by kernel_rfl) (by rw [z1]; decide)
   exact hQ aq W z2 z3 (fun e he => z4 e (by simpa using he)) (z6 25 40 (hl 25 (by simp)) rfl) z5
def VevI_C (m mc c : Nat) (Be : Nat) (eo : Option Addr) (x y z : Int) (_B : Nat) : Nat → Value → World → Prop
 | 0, v, _ => v = .pointer (some ⟨Be, 0, none⟩)
 | 1, v, _ => v = PV x y z
 | 2, v, _ => v = .bool (ptB x y z)
 | 3, v, _ => v = .bool false
 | 4, v, _ => v = .bool false
 | 5, v, _ => v = .pointer (some ⟨Be, 12, none⟩)
 | 6, v, _ => v = .slice eo m mc
 | 7, v, _ => v = .bool true
 | 8, v, _ => v = .bool false
 | 9, v, _ => v = .bool false
 | 10, v, _ => v = .bool false
 | 11, v, _ => v = .int .i64 (c : Int)
 | 12, v, _ => v = .bool false
 | 13, v, _ => v = .bool false
 | 14, v, _ => v = undef
 | 15, v, _ => v = undef
 | 16, v, _ => v = undef
 | 17, v, _ => v = undef
 | 18, v, _ => v = undef
 | 19, v, _ => v = undef
 | 20, v, _ => v = undef
 | 21, v, _ => v = undef
 | 22, v, _ => v = undef
 | 23, v, _ => v = undef
 | 24, v, _ => v = .bool false
 | 25, v, _ => v = .bool false
 | _, _, _ => True
theorem VevI_C.mono {m mc c : Nat} {Be : Nat} {eo : Option Addr} {x y z : Int} {B j : Nat} {v : Value} {W W2 : World} (_hB : Below W.heap.size W W2) (h : VevI_C m mc c Be eo x y z B j v W) : VevI_C m mc c Be eo x y z B j v W2 := by
 unfold VevI_C at *
 split <;> simp only at h <;> first | exact h | trivial
theorem evI_C {Q : Exit → Act → World → Prop} {m mc c : Nat} {Be : Nat} {eo : Option Addr} {x y z : Int} {xs : Nat → Int} {w0 : World} {a0 : Act} {idq : Nat} {t0 t1 t2 t3 t4 t5 t6 t7 t8 t9 t10 t11 t12 t13 t14 t15 t16 t17 t18 t19 t20 t21 t22 t23 t24 t25 : TypeId} {q0 q1 q2 q3 q4 q5 q6 q7 q8 q9 q10 q11 q12 q13 q14 q15 q16 q17 q18 q19 q20 q21 q22 q23 q24 q25 : String}
   (ta : told x = true) (tb : told y = true) (tc : told z = true) (hp : ptB x y z = true) (hNo : NoIn w0 eo m xs) (hre : ∀ W, NoIn W eo m xs → Calls Tryz.prog 70 #[.slice eo m mc] W (VP (.bool true) W)) (hc0 : Hid (c = 0)) (h3 : a0.tmps[3]? = some (.int .i64 (c : Int))) (h4 : a0.tmps[4]? = some (.pointer (some ⟨Be, 0, none⟩))) (k0 : w0.cell? ⟨Be, 0, none⟩ = some (.int .u64 (ww3 x))) (l0 : (⟨Be, 0, none⟩ : Addr).block < w0.heap.size) (k1 : w0.cell? ⟨Be, 1, none⟩ = some (.int .u64 (ww2 x))) (l1 : (⟨Be, 1, none⟩ : Addr).block < w0.heap.size) (k2 : w0.cell? ⟨Be, 2, none⟩ = some (.int .u64 (ww1 x))) (l2 : (⟨Be, 2, none⟩ : Addr).block < w0.heap.size) (k3 : w0.cell? ⟨Be, 3, none⟩ = some (.int .u64 (ww0 x))) (l3 : (⟨Be, 3, none⟩ : Addr).block < w0.heap.size) (k4 : w0.cell? ⟨Be, 4, none⟩ = some (.int .u64 (ww3 y))) (l4 : (⟨Be, 4, none⟩ : Addr).block < w0.heap.size) (k5 : w0.cell? ⟨Be, 5, none⟩ = some (.int .u64 (ww2 y))) (l5 : (⟨Be, 5, none⟩ : Addr).block < w0.heap.size) (k6 : w0.cell? ⟨Be, 6, none⟩ = some (.int .u64 (ww1 y))) (l6 : (⟨Be, 6, none⟩ : Addr).block < w0.heap.size) (k7 : w0.cell? ⟨Be, 7, none⟩ = some (.int .u64 (ww0 y))) (l7 : (⟨Be, 7, none⟩ : Addr).block < w0.heap.size) (k8 : w0.cell? ⟨Be, 8, none⟩ = some (.int .u64 (ww3 z))) (l8 : (⟨Be, 8, none⟩ : Addr).block < w0.heap.size) (k9 : w0.cell? ⟨Be, 9, none⟩ = some (.int .u64 (ww2 z))) (l9 : (⟨Be, 9, none⟩ : Addr).block < w0.heap.size) (k10 : w0.cell? ⟨Be, 10, none⟩ = some (.int .u64 (ww1 z))) (l10 : (⟨Be, 10, none⟩ : Addr).block < w0.heap.size) (k11 : w0.cell? ⟨Be, 11, none⟩ = some (.int .u64 (ww0 z))) (l11 : (⟨Be, 11, none⟩ : Addr).block < w0.heap.size) (k12 : w0.cell? ⟨Be, 12, none⟩ = some (.slice eo m mc)) (l12 : (⟨Be, 12, none⟩ : Addr).block < w0.heap.size) (hz : a0.tmps.size = 42)
   (hQ : ∀ aq W, aq.tmps.size = a0.tmps.size → aq.defers = a0.defers → (∀ e, e ∉ ([15, 16, 17, 18, 19, 20, 21, 22, 23, 24, 25, 26, 27, 28, 29, 30, 31, 32, 33, 34, 35, 36, 37, 38, 39, 40] : List Nat) → aq.tmps[e]? = a0.tmps[e]?) → VevI_C m mc c Be eo x y z w0.heap.size 25 (aq.tmps.getD 40 undef) W → Below w0.heap.size w0 W → Q .normal aq W) :
   (Code.region idq #[{ dst := some 15, op := Op.fieldAddr 81 (.tmp 4) 0, type := t0, pos := q0, after := #[], guard := none },
   { dst := some 16, op := Op.load 35 (.tmp 15), type := t1, pos := q1, after := #[⟨0, .data⟩], guard := none },
   { dst := some 17, op := Op.call { callee := Callee.value (Operand.func 29), args := #[.tmp 16], argTypes := #[35] }, type := t2, pos := q2, after := #[⟨1, .data⟩], guard := none },
   { dst := some 18, op := Op.unOp UnOp.not 4 (.tmp 17), type := t3, pos := q3, after := #[⟨2, .data⟩], guard := none },
   { dst := some 19, op := Op.move (.tmp 18), type := t4, pos := q4, after := #[⟨3, .data⟩, ⟨2, .chain⟩], guard := none },
   { dst := some 20, op := Op.fieldAddr 81 (.tmp 4) 1, type := t5, pos := q5, after := #[⟨4, .guard⟩], guard := some (4, false) },
   { dst := some 21, op := Op.load 29 (.tmp 20), type := t6, pos := q6, after := #[⟨5, .data⟩, ⟨4, .guard⟩], guard := some (4, false) },
   { dst := some 22, op := Op.call { callee := Callee.value (Operand.func 70), args := #[.tmp 21], argTypes := #[29] }, type := t7, pos := q7, after := #[⟨6, .data⟩, ⟨4, .chain⟩, ⟨4, .guard⟩], guard := some (4, false) },
   { dst := some 23, op := Op.unOp UnOp.not 4 (.tmp 22), type := t8, pos := q8, after := #[⟨7, .data⟩, ⟨4, .guard⟩], guard := some (4, false) },
   { dst := some 24, op := Op.pick (.tmp 19) (Operand.const (Value.bool true)) (.tmp 23), type := t9, pos := q9, after := #[⟨4, .data⟩, ⟨8, .data⟩], guard := none },
   { dst := some 25, op := Op.move (.tmp 24), type := t10, pos := q10, after := #[⟨9, .data⟩, ⟨7, .chain⟩], guard := none },
   { dst := some 26, op := Op.move (.tmp 3), type := t11, pos := q11, after := #[⟨10, .guard⟩], guard := some (10, false) },
   { dst := some 27, op := Op.binOp BinOp.gtr 3 (.tmp 26) (Operand.const (Value.int IntKind.i64 0)) 3, type := t12, pos := q12, after := #[⟨11, .data⟩, ⟨10, .guard⟩], guard := some (10, false) },
   { dst := some 28, op := Op.move (.tmp 27), type := t13, pos := q13, after := #[⟨12, .data⟩, ⟨10, .chain⟩, ⟨10, .guard⟩], guard := some (10, false) },
   { dst := some 29, op := Op.move (.tmp 0), type := t14, pos := q14, after := #[⟨13, .guard⟩], guard := some (13, true) },
   { dst := some 30, op := Op.move (.tmp 3), type := t15, pos := q15, after := #[⟨13, .guard⟩], guard := some (13, true) },
   { dst := some 31, op := Op.binOp BinOp.sub 3 (.tmp 30) (Operand.const (Value.int IntKind.i64 1)) 3, type := t16, pos := q16, after := #[⟨15, .data⟩, ⟨13, .guard⟩], guard := some (13, true) },
   { dst := some 32, op := Op.indexAddr 44 (.tmp 29) (.tmp 31), type := t17, pos := q17, after := #[⟨14, .data⟩, ⟨16, .data⟩, ⟨13, .guard⟩], guard := some (13, true) },
   { dst := some 33, op := Op.fieldAddr 81 (.tmp 32) 0, type := t18, pos := q18, after := #[⟨17, .data⟩, ⟨13, .guard⟩], guard := some (13, true) },
   { dst := some 34, op := Op.load 35 (.tmp 33), type := t19, pos := q19, after := #[⟨18, .data⟩, ⟨13, .guard⟩], guard := some (13, true) },
   { dst := some 35, op := Op.fieldAddr 81 (.tmp 4) 0, type := t20, pos := q20, after := #[⟨13, .guard⟩], guard := some (13, true) },
   { dst := some 36, op := Op.load 35 (.tmp 35), type := t21, pos := q21, after := #[⟨20, .data⟩, ⟨13, .guard⟩], guard := some (13, true) },
   { dst := some 37, op := Op.call { callee := Callee.value (Operand.func 71), args := #[.tmp 34, .tmp 36], argTypes := #[35, 35] }, type := t22, pos := q22, after := #[⟨19, .data⟩, ⟨21, .data⟩, ⟨13, .chain⟩, ⟨13, .guard⟩], guard := some (13, true) },
   { dst := some 38, op := Op.binOp BinOp.geq 2 (.tmp 37) (Operand.const (Value.int IntKind.i64 0)) 2, type := t23, pos := q23, after := #[⟨22, .data⟩, ⟨13, .guard⟩], guard := some (13, true) },
   { dst := some 39, op := Op.pick (.tmp 28) (.tmp 38) (Operand.const (Value.bool false)), type := t24, pos := q24, after := #[⟨13, .data⟩, ⟨23, .data⟩, ⟨10, .guard⟩], guard := some (10, false) },
   { dst := some 40, op := Op.pick (.tmp 25) (Operand.const (Value.bool true)) (.tmp 39), type := t25, pos := q25, after := #[⟨10, .data⟩, ⟨24, .data⟩], guard := none }] true).wp Tryz.prog Q a0 w0 := by
 have hS : distS [some 15, some 16, some 17, some 18, some 19, some 20, some 21, some 22, some 23, some 24, some 25, some 26, some 27, some 28, some 29, some 30, some 31, some 32, some 33, some 34, some 35, some 36, some 37, some 38, some 39, some 40] = true := rfl
 refine wp_region_q (by kernel_rfl) w0.heap.size [some 15, some 16, some 17, some 18, some 19, some 20, some 21, some 22, some 23, some 24, some 25, some 26, some 27, some 28, some 29, some 30, some 31, some 32, some 33, some 34, some 35, some 36, some 37, some 38, some 39, some 40] (VevI_C m mc c Be eo x y z w0.heap.size) rfl ?_ ?_
 · intro Q lq aq W iq oq hJ hl ho hall
   have hJ2 := hJ
   obtain ⟨z1, z2, z3, z4, z5, z6, z7⟩ := hJ
   have g3 : aq.tmps.getD 3 undef = .int .i64 (c : Int) := by rw [Array.getD_eq_getD_getElem?, z4 3 (by decide), h3]; rfl
   have g4 : aq.tmps.getD 4 undef = .pointer (some ⟨Be, 0, none⟩) := by rw [Array.getD_eq_getD_getElem?, z4 4 (by decide), h4]; rfl
   have c0 : W.cell? ⟨Be, 0, none⟩ = some (.int .u64 (ww3 x)) := (z5.cell l0).trans k0
   have c1 : W.cell? ⟨Be, 1, none⟩ = some (.int .u64 (ww2 x)) := (z5.cell l1).trans k1
   have c2 : W.cell? ⟨Be, 2, none⟩ = some (.int .u64 (ww1 x)) := (z5.cell l2).trans k2
   have c3 : W.cell? ⟨Be, 3, none⟩ = some (.int .u64 (ww0 x)) := (z5.cell l3).trans k3
   have c4 : W.cell? ⟨Be, 4, none⟩ = some (.int .u64 (ww3 y)) := (z5.cell l4).trans k4
   have c5 : W.cell? ⟨Be, 5, none⟩ = some (.int .u64 (ww2 y)) := (z5.cell l5).trans k5
   have c6 : W.cell? ⟨Be, 6, none⟩ = some (.int .u64 (ww1 y)) := (z5.cell l6).trans k6
   have c7 : W.cell? ⟨Be, 7, none⟩ = some (.int .u64 (ww0 y)) := (z5.cell l7).trans k7
   have c8 : W.cell? ⟨Be, 8, none⟩ = some (.int .u64 (ww3 z)) := (z5.cell l8).trans k8
   have c9 : W.cell? ⟨Be, 9, none⟩ = some (.int .u64 (ww2 z)) := (z5.cell l9).trans k9
   have c10 : W.cell? ⟨Be, 10, none⟩ = some (.int .u64 (ww1 z)) := (z5.cell l10).trans k10
   have c11 : W.cell? ⟨Be, 11, none⟩ = some (.int .u64 (ww0 z)) := (z5.cell l11).trans k11
   have c12 : W.cell? ⟨Be, 12, none⟩ = some (.slice eo m mc) := (z5.cell l12).trans k12
   match iq, ho with
   | 0, ho =>
     cases ho
     refine wpOp_of rfl rfl ?_
     have hK := fun (v : Value) (W2 : World) hW hT hv => hJ2.put hS 0 15 rfl (by omega) (W' := W2) hW hT v hv
     clear ho hall hl hQ
     generalize InvQ _ _ _ w0 a0 (lq.setIfInBounds 0 true) = K at hK ⊢
     clear hJ2 hS z1 z2 z3 z4 z6 z7
     go_simp
     exact hK _ _ z5 (fun _ _ h => h) rfl
   | 1, ho =>
     cases ho
     refine wpOp_of rfl rfl ?_
     have f0 : (aq.tmps.getD 15 undef) = .pointer (some ⟨Be, 0, none⟩) := z6 0 15 (hall ⟨0, .data⟩ (by simp) rfl) rfl
     have hK := fun (v : Value) (W2 : World) hW hT hv => hJ2.put hS 1 16 rfl (by omega) (W' := W2) hW hT v hv
     clear ho hall hl hQ
     generalize InvQ _ _ _ w0 a0 (lq.setIfInBounds 1 true) = K at hK ⊢
     clear hJ2 hS z1 z2 z3 z4 z6 z7
     go_simp
     exact hK _ _ z5 (fun _ _ h => h) rfl
   | 2, ho =>
     cases ho
     refine wpOp_of rfl rfl ?_
     have f1 : (aq.tmps.getD 16 undef) = PV x y z := z6 1 16 (hall ⟨1, .data⟩ (by simp) rfl) rfl
     have hK := fun (v : Value) (W2 : World) hW hT hv => hJ2.put hS 2 17 rfl (by omega) (W' := W2) hW hT v hv
     clear ho hall hl hQ
     generalize InvQ _ _ _ w0 a0 (lq.setIfInBounds 2 true) = K at hK ⊢
     clear hJ2 hS z1 z2 z3 z4 z6 z7
     go_simp
     refine (pright_det x y z ta tb tc W).mono ?_
     rintro e v1 ⟨rfl, hBv⟩
     exact hK _ _ (z5.trans (hBv.mono z5.size)) (fun j v h => h.mono hBv) rfl
   | 3, ho =>
     cases ho
     refine wpOp_of rfl rfl ?_
     have f2 : (aq.tmps.getD 17 undef) = .bool (ptB x y z) := z6 2 17 (hall ⟨2, .data⟩ (by simp) rfl) rfl
     rw [hp] at f2
     have hK := fun (v : Value) (W2 : World) hW hT hv => hJ2.put hS 3 18 rfl (by omega) (W' := W2) hW hT v hv
     clear ho hall hl hQ
     generalize InvQ _ _ _ w0 a0 (lq.setIfInBounds 3 true) = K at hK ⊢
     clear hJ2 hS z1 z2 z3 z4 z6 z7
     go_simp
     exact hK _ _ z5 (fun _ _ h => h) rfl
   | 4, ho =>
     cases ho
     refine wpOp_of rfl rfl ?_
     have f3 : (aq.tmps.getD 18 undef) = .bool false := z6 3 18 (hall ⟨3, .data⟩ (by simp) rfl) rfl
     have hK := fun (v : Value) (W2 : World) hW hT hv => hJ2.put hS 4 19 rfl (by omega) (W' := W2) hW hT v hv
     clear ho hall hl hQ
     generalize InvQ _ _ _ w0 a0 (lq.setIfInBounds 4 true) = K at hK ⊢
     clear hJ2 hS z1 z2 z3 z4 z6 z7
     go_simp
     exact hK _ _ z5 (fun _ _ h => h) rfl
   | 5, ho =>
     cases ho
     have fg : aq.tmps.getD 19 undef = .bool false := z6 4 19 (hall ⟨4, .guard⟩ (by simp) rfl) rfl
     refine wpOp_on rfl rfl rfl rfl fg ?_
     have hK := fun (v : Value) (W2 : World) hW hT hv => hJ2.put hS 5 20 rfl (by omega) (W' := W2) hW hT v hv
     clear ho hall hl hQ
     generalize InvQ _ _ _ w0 a0 (lq.setIfInBounds 5 true) = K at hK ⊢
     clear hJ2 hS z1 z2 z3 z4 z6 z7
     go_simp
     exact hK _ _ z5 (fun _ _ h => h) rfl
   | 6, ho =>
     cases ho
     have fg : aq.tmps.getD 19 undef = .bool false := z6 4 19 (hall ⟨4, .guard⟩ (by simp) rfl) rfl
     refine wpOp_on rfl rfl rfl rfl fg ?_
     have f5 : (aq.tmps.getD 20 undef) = .pointer (some ⟨Be, 12, none⟩) := z6 5 20 (hall ⟨5, .data⟩ (by simp) rfl) rfl
     have hK := fun (v : Value) (W2 : World) hW hT hv => hJ2.put hS 6 21 rfl (by omega) (W' := W2) hW hT v hv
     clear ho hall hl hQ
     generalize InvQ _ _ _ w0 a0 (lq.setIfInBounds 6 true) = K at hK ⊢
     clear hJ2 hS z1 z2 z3 z4 z6 z7
     go_simp
     exact hK _ _ z5 (fun _ _ h => h) rfl
   | 7, ho =>
     cases ho
     have fg : aq.tmps.getD 19 undef = .bool false := z6 4 19 (hall ⟨4, .guard⟩ (by simp) rfl) rfl
     refine wpOp_on rfl rfl rfl rfl fg ?_
     have f6 : (aq.tmps.getD 21 undef) = .slice eo m mc := z6 6 21 (hall ⟨6, .data⟩ (by simp) rfl) rfl
     have hK := fun (v : Value) (W2 : World) hW hT hv => hJ2.put hS 7 22 rfl (by omega) (W' := W2) hW hT v hv
     clear ho hall hl hQ
     generalize InvQ _ _ _ w0 a0 (lq.setIfInBounds 7 true) = K at hK ⊢
     clear hJ2 hS z1 z2 z3 z4 z6 z7
     go_simp
     refine (hre W (hNo.step z5)).mono ?_
     rintro e v1 ⟨rfl, hBv⟩
     exact hK _ _ (z5.trans (hBv.mono z5.size)) (fun j v h => h.mono hBv) rfl
   | 8, ho =>
     cases ho
     have fg : aq.tmps.getD 19 undef = .bool false := z6 4 19 (hall ⟨4, .guard⟩ (by simp) rfl) rfl
     refine wpOp_on rfl rfl rfl rfl fg ?_
     have f7 : (aq.tmps.getD 22 undef) = .bool true := z6 7 22 (hall ⟨7, .data⟩ (by simp) rfl) rfl
     have hK := fun (v : Value) (W2 : World) hW hT hv => hJ2.put hS 8 23 rfl (by omega) (W' := W2) hW hT v hv
     clear ho hall hl hQ
     generalize InvQ _ _ _ w0 a0 (lq.setIfInBounds 8 true) = K at hK ⊢
     clear hJ2 hS z1 z2 z3 z4 z6 z7
     go_simp
     exact hK _ _ z5 (fun _ _ h => h) rfl
   | 9, ho =>
     cases ho
     refine wpOp_of rfl rfl ?_
     have f4 : (aq.tmps.getD 19 undef) = .bool false := z6 4 19 (hall ⟨4, .data⟩ (by simp) rfl) rfl
     have f8 : (aq.tmps.getD 23 undef) = .bool false := z6 8 23 (hall ⟨8, .data⟩ (by simp) rfl) rfl
     have hK := fun (v : Value) (W2 : World) hW hT hv => hJ2.put hS 9 24 rfl (by omega) (W' := W2) hW hT v hv
     clear ho hall hl hQ
     generalize InvQ _ _ _ w0 a0 (lq.setIfInBounds 9 true) = K at hK ⊢
     clear hJ2 hS z1 z2 z3 z4 z6 z7
     go_simp
     exact hK _ _ z5 (fun _ _ h => h) rfl
   | 10, ho =>
     cases ho
     refine wpOp_of rfl rfl ?_
     have f9 : (aq.tmps.getD 24 undef) = .bool false := z6 9 24 (hall ⟨9, .data⟩ (by simp) rfl) rfl
     have hK := fun (v : Value) (W2 : World) hW hT hv => hJ2.put hS 10 25 rfl (by omega) (W' := W2) hW hT v hv
     clear ho hall hl hQ
     generalize InvQ _ _ _ w0 a0 (lq.setIfInBounds 10 true) = K at hK ⊢
     clear hJ2 hS z1 z2 z3 z4 z6 z7
     go_simp
     exact hK _ _ z5 (fun _ _ h => h) rfl
   | 11, ho =>
     cases ho
     have fg : aq.tmps.getD 25 undef = .bool false := z6 10 25 (hall ⟨10, .guard⟩ (by simp) rfl) rfl
     refine wpOp_on rfl rfl rfl rfl fg ?_
     have hK := fun (v : Value) (W2 : World) hW hT hv => hJ2.put hS 11 26 rfl (by omega) (W' := W2) hW hT v hv
     clear ho hall hl hQ
     generalize InvQ _ _ _ w0 a0 (lq.setIfInBounds 11 true) = K at hK ⊢
     clear hJ2 hS z1 z2 z3 z4 z6 z7
     go_simp
     exact hK _ _ z5 (fun _ _ h => h) rfl
   | 12, ho =>
     cases ho
     have fg : aq.tmps.getD 25 undef = .bool false := z6 10 25 (hall ⟨10, .guard⟩ (by simp) rfl) rfl
     refine wpOp_on rfl rfl rfl rfl fg ?_
     have f11 : (aq.tmps.getD 26 undef) = .int .i64 (c : Int) := z6 11 26 (hall ⟨11, .data⟩ (by simp) rfl) rfl
     have hgt : (c : Int) ≤ 0 := by have ho := hc0.out; omega
     have hK := fun (v : Value) (W2 : World) hW hT hv => hJ2.put hS 12 27 rfl (by omega) (W' := W2) hW hT v hv
     clear ho hall hl hQ
     generalize InvQ _ _ _ w0 a0 (lq.setIfInBounds 12 true) = K at hK ⊢
     clear hJ2 hS z1 z2 z3 z4 z6 z7
     go_simp
     exact hK _ _ z5 (fun _ _ h => h) (by show _ = _; exact congrArg Value.bool (decide_eq_false (by omega)))
   | 13, ho =>
     cases ho
     have fg : aq.tmps.getD 25 undef = .bool false := z6 10 25 (hall ⟨10, .guard⟩ (by simp) rfl) rfl
     refine wpOp_on rfl rfl rfl rfl fg ?_
     have f12 : (aq.tmps.getD 27 undef) = .bool false := z6 12 27 (hall ⟨12, .data⟩ (by simp) rfl) rfl
     have hK := fun (v : Value) (W2 : World) hW hT hv => hJ2.put hS 13 28 rfl (by omega) (W' := W2) hW hT v hv
     clear ho hall hl hQ
     generalize InvQ _ _ _ w0 a0 (lq.setIfInBounds 13 true) = K at hK ⊢
     clear hJ2 hS z1 z2 z3 z4 z6 z7
     go_simp
     exact hK _ _ z5 (fun _ _ h => h) rfl
   | 14, ho =>
     cases ho
     have fg : aq.tmps.getD 28 undef = .bool false := z6 13 28 (hall ⟨13, .guard⟩ (by simp) rfl) rfl
     refine wpOp_off rfl rfl rfl rfl fg ?_
     exact hJ2.put hS 14 29 rfl (by omega) z5 (fun _ _ h => h) undef rfl
   | 15, ho =>
     cases ho
     have fg : aq.tmps.getD 28 undef = .bool false := z6 13 28 (hall ⟨13, .guard⟩ (by simp) rfl) rfl
     refine wpOp_off rfl rfl rfl rfl fg ?_
     exact hJ2.put hS 15 30 rfl (by omega) z5 (fun _ _ h => h) undef rfl
   | 16, ho =>
     cases ho
     have fg : aq.tmps.getD 28 undef = .bool false := z6 13 28 (hall ⟨13, .guard⟩ (by simp) rfl) rfl
     refine wpOp_off rfl rfl rfl rfl fg ?_
     exact hJ2.put hS 16 31 rfl (by omega) z5 (fun _ _ h => h) undef rfl
   | 17, ho =>
     cases ho
     have fg : aq.tmps.getD 28 undef = .bool false := z6 13 28 (hall ⟨13, .guard⟩ (by simp) rfl) rfl
     refine wpOp_off rfl rfl rfl rfl fg ?_
     exact hJ2.put hS 17 32 rfl (by omega) z5 (fun _ _ h => h) undef rfl
   | 18, ho =>
     cases ho
     have fg : aq.tmps.getD 28 undef = .bool false := z6 13 28 (hall ⟨13, .guard⟩ (by simp) rfl) rfl
     refine wpOp_off rfl rfl rfl rfl fg ?_
     exact hJ2.put hS 18 33 rfl (by omega) z5 (fun _ _ h => h) undef rfl
   | 19, ho =>
     cases ho
     have fg : aq.tmps.getD 28 undef = .bool false := z6 13 28 (hall ⟨13, .guard⟩ (by simp) rfl) rfl
     refine wpOp_off rfl rfl rfl rfl fg ?_
     exact hJ2.put hS 19 34 rfl (by omega) z5 (fun _ _ h => h) undef rfl
   | 20, ho =>
     cases ho
     have fg : aq.tmps.getD 28 undef = .bool false := z6 13 28 (hall ⟨13, .guard⟩ (by simp) rfl) rfl
     refine wpOp_off rfl rfl rfl rfl fg ?_
     exact hJ2.put hS 20 35 rfl (by omega) z5 (fun _ _ h => h) undef rfl
   | 21, ho =>
     cases ho
     have fg : aq.tmps.getD 28 undef = .bool false := z6 13 28 (hall ⟨13, .guard⟩ (by simp) rfl) rfl
     refine wpOp_off rfl rfl rfl rfl fg ?_
     exact hJ2.put hS 21 36 rfl (by omega) z5 (fun _ _ h => h) undef rfl
   | 22, ho =>
     cases ho
     have fg : aq.tmps.getD 28 undef = .bool false := z6 13 28 (hall ⟨13, .guard⟩ (by simp) rfl) rfl
     refine wpOp_off rfl rfl rfl rfl fg ?_
     exact hJ2.put hS 22 37 rfl (by omega) z5 (fun _ _ h => h) undef rfl
   | 23, ho =>
     cases ho
     have fg : aq.tmps.getD 28 undef = .bool false := z6 13 28 (hall ⟨13, .guard⟩ (by simp) rfl) rfl
     refine wpOp_off rfl rfl rfl rfl fg ?_
     exact hJ2.put hS 23 38 rfl (by omega) z5 (fun _ _ h => h) undef rfl
   | 24, ho =>
     cases ho
     have fg : aq.tmps.getD 25 undef = .bool false := z6 10 25 (hall ⟨10, .guard⟩ (by simp) rfl) rfl
     refine wpOp_on rfl rfl rfl rfl fg ?_
     have f13 : (aq.tmps.getD 28 undef) = .bool false := z6 13 28 (hall ⟨13, .data⟩ (by simp) rfl) rfl
     have f23 : (aq.tmps.getD 38 undef) = undef := z6 23 38 (hall ⟨23, .data⟩ (by simp) rfl) rfl
     have hK := fun (v : Value) (W2 : World) hW hT hv => hJ2.put hS 24 39 rfl (by omega) (W' := W2) hW hT v hv
     clear ho hall hl hQ
     generalize InvQ _ _ _ w0 a0 (lq.setIfInBounds 24 true) = K at hK ⊢
     clear hJ2 hS z1 z2 z3 z4 z6 z7
     go_simp
     exact hK _ _ z5 (fun _ _ h => h) rfl
   | 25, ho =>
     cases ho
     refine wpOp_of rfl rfl ?_
     have f10 : (aq.tmps.getD 25 undef) = .bool false := z6 10 25 (hall ⟨10, .data⟩ (by simp) rfl) rfl
     have f24 : (aq.tmps.getD 39 undef) = .bool false := z6 24 39 (hall ⟨24, .data⟩ (by simp) rfl) rfl
     have hK := fun (v : Value) (W2 : World) hW hT hv => hJ2.put hS 25 40 rfl (by omega) (W' := W2) hW hT v hv
     clear ho hall hl hQ
     generalize InvQ _ _ _ w0 a0 (lq.setIfInBounds 25 true) = K at hK ⊢
     clear hJ2 hS z1 z2 z3 z4 z6 z7
     go_simp
     exact hK _ _ z5 (fun _ _ h => h) rfl
   | iq + 26, ho => simp at ho
 · intro lq aq W hJ hr
   obtain ⟨z1, z2, z3, z4, z5, z6, z7⟩ := hJ
   have hl := listed_of hr [0, 1, 2, 3, 4, 5, 6, 7, 8, 9, 10, 11, 12, 13, 14, 15, 16, 17, 18, 19, 20, 21, 22, 23, 24, 25] [] (by simp) (by kernel_rfl) (by rw [z1]; decide)
   exact hQ aq W z2 z3 (fun e he => z4 e (by simpa using he)) (z6 25 40 (hl 25 (by simp)) rfl) z5
def VevI_D (n cap A off c d m mc : Nat) (Be : Nat) (eo : Option Addr) (x y z u vv t : Int) (_B : Nat) : Nat → Value → World → Prop
 | 0, v, _ => v = .pointer (some ⟨Be, 0, none⟩)
 | 1, v, _ => v = PV x y z
 | 2, v, _ => v = .bool (ptB x y z)
 | 3, v, _ => v = .bool false
 | 4, v, _ => v = .bool false
 | 5, v, _ => v = .pointer (some ⟨Be, 12, none⟩)
 | 6, v, _ => v = .slice eo m mc
 | 7, v, _ => v = .bool true
 | 8, v, _ => v = .bool false
 | 9, v, _ => v = .bool false
 | 10, v, _ => v = .bool false
 | 11, v, _ => v = .int .i64 (c : Int)
 | 12, v, _ => v = .bool true
 | 13, v, _ => v = .bool true
 | 14, v, _ => v = .slice (some ⟨A, off, none⟩) n cap
 | 15, v, _ => v = .int .i64 (c : Int)
 | 16, v, _ => v = .int .i64 (d : Int)
 | 17, v, _ => v = .pointer (some ⟨A, off + d * 13, none⟩)
 | 18, v, _ => v = .pointer (some ⟨A, off + d * 13, none⟩)
 | 19, v, _ => v = PV u vv t
 | 20, v, _ => v = .pointer (some ⟨Be, 0, none⟩)
 | 21, v, _ => v = PV x y z
 | 22, v, _ => v = .int .i64 (ordI u vv t x y z)
 | 23, v, _ => v = .bool (decide (0 ≤ ordI u vv t x y z))
 | 24, v, _ => v = .bool (decide (0 ≤ ordI u vv t x y z))
 | 25, v, _ => v = .bool (decide (0 ≤ ordI u vv t x y z))
 | _, _, _ => True
theorem VevI_D.mono {n cap A off c d m mc : Nat} {Be : Nat} {eo : Option Addr} {x y z u vv t : Int} {B j : Nat} {v : Value} {W W2 : World} (_hB : Below W.heap.size W W2) (h : VevI_D n cap A off c d m mc Be eo x y z u vv t B j v W) : VevI_D n cap A off c d m mc Be eo x y z u vv t B j v W2 := by
 unfold VevI_D at *
 split <;> simp only at h <;> first | exact h | trivial
theorem evI_D {Q : Exit → Act → World → Prop} {n cap A off c d m mc : Nat} {Be : Nat} {eo : Option Addr} {x y z u vv t : Int} {xs : Nat → Int} {w0 : World} {a0 : Act} {idq : Nat} {t0 t1 t2 t3 t4 t5 t6 t7 t8 t9 t10 t11 t12 t13 t14 t15 t16 t17 t18 t19 t20 t21 t22 t23 t24 t25 : TypeId} {q0 q1 q2 q3 q4 q5 q6 q7 q8 q9 q10 q11 q12 q13 q14 q15 q16 q17 q18 q19 q20 q21 q22 q23 q24 q25 : String}
   (ta : told x = true) (tb : told y = true) (tc : told z = true) (hp : ptB x y z = true) (hpu : ptB u vv t = true) (hNo : NoIn w0 eo m xs) (hre : ∀ W, NoIn W eo m xs → Calls Tryz.prog 70 #[.slice eo m mc] W (VP (.bool true) W)) (hcd : Hid (c = d + 1)) (hc : c < n) (hn : n ≤ 200) (h0 : a0.tmps[0]? = some (.slice (some ⟨A, off, none⟩) n cap)) (h3 : a0.tmps[3]? = some (.int .i64 (c : Int))) (h4 : a0.tmps[4]? = some (.pointer (some ⟨Be, 0, none⟩))) (k0 : w0.cell? ⟨Be, 0, none⟩ = some (.int .u64 (ww3 x))) (l0 : (⟨Be, 0, none⟩ : Addr).block < w0.heap.size) (k1 : w0.cell? ⟨Be, 1, none⟩ = some (.int .u64 (ww2 x))) (l1 : (⟨Be, 1, none⟩ : Addr).block < w0.heap.size) (k2 : w0.cell? ⟨Be, 2, none⟩ = some (.int .u64 (ww1 x))) (l2 : (⟨Be, 2, none⟩ : Addr).block < w0.heap.size) (k3 : w0.cell? ⟨Be, 3, none⟩ = some (.int .u64 (ww0 x))) (l3 : (⟨Be, 3, none⟩ : Addr).block < w0.heap.size) (k4 : w0.cell? ⟨Be, 4, none⟩ = some (.int .u64 (ww3 y))) (l4 : (⟨Be, 4, none⟩ : Addr).block < w0.heap.size) (k5 : w0.cell? ⟨Be, 5, none⟩ = some (.int .u64 (ww2 y))) (l5 : (⟨Be, 5, none⟩ : Addr).block < w0.heap.size) (k6 : w0.cell? ⟨Be, 6, none⟩ = some (.int .u64 (ww1 y))) (l6 : (⟨Be, 6, none⟩ : Addr).block < w0.heap.size) (k7 : w0.cell? ⟨Be, 7, none⟩ = some (.int .u64 (ww0 y))) (l7 : (⟨Be, 7, none⟩ : Addr).block < w0.heap.size) (k8 : w0.cell? ⟨Be, 8, none⟩ = some (.int .u64 (ww3 z))) (l8 : (⟨Be, 8, none⟩ : Addr).block < w0.heap.size) (k9 : w0.cell? ⟨Be, 9, none⟩ = some (.int .u64 (ww2 z))) (l9 : (⟨Be, 9, none⟩ : Addr).block < w0.heap.size) (k10 : w0.cell? ⟨Be, 10, none⟩ = some (.int .u64 (ww1 z))) (l10 : (⟨Be, 10, none⟩ : Addr).block < w0.heap.size) (k11 : w0.cell? ⟨Be, 11, none⟩ = some (.int .u64 (ww0 z))) (l11 : (⟨Be, 11, none⟩ : Addr).block < w0.heap.size) (k12 : w0.cell? ⟨Be, 12, none⟩ = some (.slice eo m mc)) (l12 : (⟨Be, 12, none⟩ : Addr).block < w0.heap.size) (k13 : w0.cell? ⟨A, off + d * 13, none⟩ = some (.int .u64 (ww3 u))) (l13 : (⟨A, off + d * 13, none⟩ : Addr).block < w0.heap.size) (k14 : w0.cell? ⟨A, off + d * 13 + 1, none⟩ = some (.int .u64 (ww2 u))) (l14 : (⟨A, off + d * 13 + 1, none⟩ : Addr).block < w0.heap.size) (k15 : w0.cell? ⟨A, off + d * 13 + 2, none⟩ = some (.int .u64 (ww1 u))) (l15 : (⟨A, off + d * 13 + 2, none⟩ : Addr).block < w0.heap.size) (k16 : w0.cell? ⟨A, off + d * 13 + 3, none⟩ = some (.int .u64 (ww0 u))) (l16 : (⟨A, off + d * 13 + 3, none⟩ : Addr).block < w0.heap.size) (k17 : w0.cell? ⟨A, off + d * 13 + 4, none⟩ = some (.int .u64 (ww3 vv))) (l17 : (⟨A, off + d * 13 + 4, none⟩ : Addr).block < w0.heap.size) (k18 : w0.cell? ⟨A, off + d * 13 + 5, none⟩ = some (.int .u64 (ww2 vv))) (l18 : (⟨A, off + d * 13 + 5, none⟩ : Addr).block < w0.heap.size) (k19 : w0.cell? ⟨A, off + d * 13 + 6, none⟩ = some (.int .u64 (ww1 vv))) (l19 : (⟨A, off + d * 13 + 6, none⟩ : Addr).block < w0.heap.size) (k20 : w0.cell? ⟨A, off + d * 13 + 7, none⟩ = some (.int .u64 (ww0 vv))) (l20 : (⟨A, off + d * 13 + 7, none⟩ : Addr).block < w0.heap.size) (k21 : w0.cell? ⟨A, off + d * 13 + 8, none⟩ = some (.int .u64 (ww3 t))) (l21 : (⟨A, off + d * 13 + 8, none⟩ : Addr).block < w0.heap.size) (k22 : w0.cell? ⟨A, off + d * 13 + 9, none⟩ = some (.int .u64 (ww2 t))) (l22 : (⟨A, off + d * 13 + 9, none⟩ : Addr).block < w0.heap.size) (k23 : w0.cell? ⟨A, off + d * 13 + 10, none⟩ = some (.int .u64 (ww1 t))) (l23 : (⟨A, off + d * 13 + 10, none⟩ : Addr).block < w0.heap.size) (k24 : w0.cell? ⟨A, off + d * 13 + 11, none⟩ = some (.int .u64 (ww0 t))) (l24 : (⟨A, off + d * 13 + 11, none⟩ : Addr).block < w0.heap.size) (hz : a0.tmps.size = 42)
   (hQ : ∀ aq W, aq.tmps.size = a0.tmps.size → aq.defers = a0.defers → (∀ e, e ∉ ([15, 16, 17, 18, 19, 20, 21, 22, 23, 24, 25, 26, 27, 28, 29, 30, 31, 32, 33, 34, 35, 36, 37, 38, 39, 40] : List Nat) → aq.tmps[e]? = a0.tmps[e]?) → VevI_D n cap A off c d m mc Be eo x y z u vv t w0.heap.size 25 (aq.tmps.getD 40 undef) W → Below w0.heap.size w0 W → Q .normal aq W) :
   (Code.region idq #[{ dst := some 15, op := Op.fieldAddr 81 (.tmp 4) 0, type := t0, pos := q0, after := #[], guard := none },
   { dst := some 16, op := Op.load 35 (.tmp 15), type := t1, pos := q1, after := #[⟨0, .data⟩], guard := none },
   { dst := some 17, op := Op.call { callee := Callee.value (Operand.func 29), args := #[.tmp 16], argTypes := #[35] }, type := t2, pos := q2, after := #[⟨1, .data⟩], guard := none },
   { dst := some 18, op := Op.unOp UnOp.not 4 (.tmp 17), type := t3, pos := q3, after := #[⟨2, .data⟩], guard := none },
   { dst := some 19, op := Op.move (.tmp 18), type := t4, pos := q4, after := #[⟨3, .data⟩, ⟨2, .chain⟩], guard := none },
   { dst := some 20, op := Op.fieldAddr 81 (.tmp 4) 1, type := t5, pos := q5, after := #[⟨4, .guard⟩], guard := some (4, false) },
   { dst := some 21, op := Op.load 29 (.tmp 20), type := t6, pos := q6, after := #[⟨5, .data⟩, ⟨4, .guard⟩], guard := some (4, false) },
   { dst := some 22, op := Op.call { callee := Callee.value (Operand.func 70), args := #[.tmp 21], argTypes := #[29] }, type := t7, pos := q7, after := #[⟨6, .data⟩, ⟨4, .chain⟩, ⟨4, .guard⟩], guard := some (4, false) },
   { dst := some 23, op := Op.unOp UnOp.not 4 (.tmp 22), type := t8, pos := q8, after := #[⟨7, .data⟩, ⟨4, .guard⟩], guard := some (4, false) },
   { dst := some 24, op := Op.pick (.tmp 19) (Operand.const (Value.bool true)) (.tmp 23), type := t9, pos := q9, after := #[⟨4, .data⟩, ⟨8, .data⟩], guard := none },
   { dst := some 25, op := Op.move (.tmp 24), type := t10, pos := q10, after := #[⟨9, .data⟩, ⟨7, .chain⟩], guard := none },
   { dst := some 26, op := Op.move (.tmp 3), type := t11, pos := q11, after := #[⟨10, .guard⟩], guard := some (10, false) },
   { dst := some 27, op := Op.binOp BinOp.gtr 3 (.tmp 26) (Operand.const (Value.int IntKind.i64 0)) 3, type := t12, pos := q12, after := #[⟨11, .data⟩, ⟨10, .guard⟩], guard := some (10, false) },
   { dst := some 28, op := Op.move (.tmp 27), type := t13, pos := q13, after := #[⟨12, .data⟩, ⟨10, .chain⟩, ⟨10, .guard⟩], guard := some (10, false) },
   { dst := some 29, op := Op.move (.tmp 0), type := t14, pos := q14, after := #[⟨13, .guard⟩], guard := some (13, true) },
   { dst := some 30, op := Op.move (.tmp 3), type := t15, pos := q15, after := #[⟨13, .guard⟩], guard := some (13, true) },
   { dst := some 31, op := Op.binOp BinOp.sub 3 (.tmp 30) (Operand.const (Value.int IntKind.i64 1)) 3, type := t16, pos := q16, after := #[⟨15, .data⟩, ⟨13, .guard⟩], guard := some (13, true) },
   { dst := some 32, op := Op.indexAddr 44 (.tmp 29) (.tmp 31), type := t17, pos := q17, after := #[⟨14, .data⟩, ⟨16, .data⟩, ⟨13, .guard⟩], guard := some (13, true) },
   { dst := some 33, op := Op.fieldAddr 81 (.tmp 32) 0, type := t18, pos := q18, after := #[⟨17, .data⟩, ⟨13, .guard⟩], guard := some (13, true) },
   { dst := some 34, op := Op.load 35 (.tmp 33), type := t19, pos := q19, after := #[⟨18, .data⟩, ⟨13, .guard⟩], guard := some (13, true) },
   { dst := some 35, op := Op.fieldAddr 81 (.tmp 4) 0, type := t20, pos := q20, after := #[⟨13, .guard⟩], guard := some (13, true) },
   { dst := some 36, op := Op.load 35 (.tmp 35), type := t21, pos := q21, after := #[⟨20, .data⟩, ⟨13, .guard⟩], guard := some (13, true) },
   { dst := some 37, op := Op.call { callee := Callee.value (Operand.func 71), args := #[.tmp 34, .tmp 36], argTypes := #[35, 35] }, type := t22, pos := q22, after := #[⟨19, .data⟩, ⟨21, .data⟩, ⟨13, .chain⟩, ⟨13, .guard⟩], guard := some (13, true) },
   { dst := some 38, op := Op.binOp BinOp.geq 2 (.tmp 37) (Operand.const (Value.int IntKind.i64 0)) 2, type := t23, pos := q23, after := #[⟨22, .data⟩, ⟨13, .guard⟩], guard := some (13, true) },
   { dst := some 39, op := Op.pick (.tmp 28) (.tmp 38) (Operand.const (Value.bool false)), type := t24, pos := q24, after := #[⟨13, .data⟩, ⟨23, .data⟩, ⟨10, .guard⟩], guard := some (10, false) },
   { dst := some 40, op := Op.pick (.tmp 25) (Operand.const (Value.bool true)) (.tmp 39), type := t25, pos := q25, after := #[⟨10, .data⟩, ⟨24, .data⟩], guard := none }] true).wp Tryz.prog Q a0 w0 := by
 have hS : distS [some 15, some 16, some 17, some 18, some 19, some 20, some 21, some 22, some 23, some 24, some 25, some 26, some 27, some 28, some 29, some 30, some 31, some 32, some 33, some 34, some 35, some 36, some 37, some 38, some 39, some 40] = true := rfl
 refine wp_region_q (by kernel_rfl) w0.heap.size [some 15, some 16, some 17, some 18, some 19, some 20, some 21, some 22, some 23, some 24, some 25, some 26, some 27, some 28, some 29, some 30, some 31, some 32, some 33, some 34, some 35, some 36, some 37, some 38, some 39, some 40] (VevI_D n cap A off c d m mc Be eo x y z u vv t w0.heap.size) rfl ?_ ?_
 · intro Q lq aq W iq oq hJ hl ho hall
   have hJ2 := hJ
   obtain ⟨z1, z2, z3, z4, z5, z6, z7⟩ := hJ
   have g0 : aq.tmps.getD 0 undef = .slice (some ⟨A, off, none⟩) n cap := by rw [Array.getD_eq_getD_getElem?, z4 0 (by decide), h0]; rfl
   have g3 : aq.tmps.getD 3 undef = .int .i64 (c : Int) := by rw [Array.getD_eq_getD_getElem?, z4 3 (by decide), h3]; rfl
   have g4 : aq.tmps.getD 4 undef = .pointer (some ⟨Be, 0, none⟩) := by rw [Array.getD_eq_getD_getElem?, z4 4 (by decide), h4]; rfl
   have c0 : W.cell? ⟨Be, 0, none⟩ = some (.int .u64 (ww3 x)) := (z5.cell l0).trans k0
   have c1 : W.cell? ⟨Be, 1, none⟩ = some (.int .u64 (ww2 x)) := (z5.cell l1).trans k1
   have c2 : W.cell? ⟨Be, 2, none⟩ = some (.int .u64 (ww1 x)) := (z5.cell l2).trans k2
   have c3 : W.cell? ⟨Be, 3, none⟩ = some (.int .u64 (ww0 x)) := (z5.cell l3).trans k3
   have c4 : W.cell? ⟨Be, 4, none⟩ = some (.int .u64 (ww3 y)) := (z5.cell l4).trans k4
   have c5 : W.cell? ⟨Be, 5, none⟩ = some (.int .u64 (ww2 y)) := (z5.cell l5).trans k5
   have c6 : W.cell? ⟨Be, 6, none⟩ = some (.int .u64 (ww1 y)) := (z5.cell l6).trans k6
   have c7 : W.cell? ⟨Be, 7, none⟩ = some (.int .u64 (ww0 y)) := (z5.cell l7).trans k7
   have c8 : W.cell? ⟨Be, 8, none⟩ = some (.int .u64 (ww3 z)) := (z5.cell l8).trans k8
   have c9 : W.cell? ⟨Be, 9, none⟩ = some (.int .u64 (ww2 z)) := (z5.cell l9).trans k9
   have c10 : W.cell? ⟨Be, 10, none⟩ = some (.int .u64 (ww1 z)) := (z5.cell l10).trans k10
   have c11 : W.cell? ⟨Be, 11, none⟩ = some (.int .u64 (ww0 z)) := (z5.cell l11).trans k11
   have c12 : W.cell? ⟨Be, 12, none⟩ = some (.slice eo m mc) := (z5.cell l12).trans k12
   have c13 : W.cell? ⟨A, off + d * 13, none⟩ = some (.int .u64 (ww3 u)) := (z5.cell l13).trans k13
   have c14 : W.cell? ⟨A, off + d * 13 + 1, none⟩ = some (.int .u64 (ww2 u)) := (z5.cell l14).trans k14
   have c15 : W.cell? ⟨A, off + d * 13 + 2, none⟩ = some (.int .u64 (ww1 u)) := (z5.cell l15).trans k15
   have c16 : W.cell? ⟨A, off + d * 13 + 3, none⟩ = some (.int .u64 (ww0 u)) := (z5.cell l16).trans k16
   have c17 : W.cell? ⟨A, off + d * 13 + 4, none⟩ = some (.int .u64 (ww3 vv)) := (z5.cell l17).trans k17
   have c18 : W.cell? ⟨A, off + d * 13 + 5, none⟩ = some (.int .u64 (ww2 vv)) := (z5.cell l18).trans k18
   have c19 : W.cell? ⟨A, off + d * 13 + 6, none⟩ = some (.int .u64 (ww1 vv)) := (z5.cell l19).trans k19
   have c20 : W.cell? ⟨A, off + d * 13 + 7, none⟩ = some (.int .u64 (ww0 vv)) := (z5.cell l20).trans k20
   have c21 : W.cell? ⟨A, off + d * 13 + 8, none⟩ = some (.int .u64 (ww3 t)) := (z5.cell l21).trans k21
   have c22 : W.cell? ⟨A, off + d * 13 + 9, none⟩ = some (.int .u64 (ww2 t)) := (z5.cell l22).trans k22
   have c23 : W.cell? ⟨A, off + d * 13 + 10, none⟩ = some (.int .u64 (ww1 t)) := (z5.cell l23).trans k23
   have c24 : W.cell? ⟨A, off + d * 13 + 11, none⟩ = some (.int .u64 (ww0 t)) := (z5.cell l24).trans k24
   match iq, ho with
   | 0, ho =>
     cases ho
     refine wpOp_of rfl rfl ?_
     have hK := fun (v : Value) (W2 : World) hW hT hv => hJ2.put hS 0 15 rfl (by omega) (W' := W2) hW hT v hv
     clear ho hall hl hQ
     generalize InvQ _ _ _ w0 a0 (lq.setIfInBounds 0 true) = K at hK ⊢
     clear hJ2 hS z1 z2 z3 z4 z6 z7
     go_simp
     exact hK _ _ z5 (fun _ _ h => h) rfl
   | 1, ho =>
     cases ho
     refine wpOp_of rfl rfl ?_
     have f0 : (aq.tmps.getD 15 undef) = .pointer (some ⟨Be, 0, none⟩) := z6 0 15 (hall ⟨0, .data⟩ (by simp) rfl) rfl
     have hK := fun (v : Value) (W2 : World) hW hT hv => hJ2.put hS 1 16 rfl (by omega) (W' := W2) hW hT v hv
     clear ho hall hl hQ
     generalize InvQ _ _ _ w0 a0 (lq.setIfInBounds 1 true) = K at hK ⊢
     clear hJ2 hS z1 z2 z3 z4 z6 z7
     go_simp
     exact hK _ _ z5 (fun _ _ h => h) rfl
   | 2, ho =>
     cases ho
     refine wpOp_of rfl rfl ?_
     have f1 : (aq.tmps.getD 16 undef) = PV x y z := z6 1 16 (hall ⟨1, .data⟩ (by simp) rfl) rfl
     have hK := fun (v : Value) (W2 : World) hW hT hv => hJ2.put hS 2 17 rfl (by omega) (W' := W2) hW hT v hv
     clear ho hall hl hQ
     generalize InvQ _ _ _ w0 a0 (lq.setIfInBounds 2 true) = K at hK ⊢
     clear hJ2 hS z1 z2 z3 z4 z6 z7
     go_simp
     refine (pright_det x y z ta tb tc W).mono ?_
     rintro e v1 ⟨rfl, hBv⟩
     exact hK _ _ (z5.trans (hBv.mono z5.size)) (fun j v h => h.mono hBv) rfl
   | 3, ho =>
     cases ho
     refine wpOp_of rfl rfl ?_
     have f2 : (aq.tmps.getD 17 undef) = .bool (ptB x y z) := z6 2 17 (hall ⟨2, .data⟩ (by simp) rfl) rfl
     rw [hp] at f2
     have hK := fun (v : Value) (W2 : World) hW hT hv => hJ2.put hS 3 18 rfl (by omega) (W' := W2) hW hT v hv
     clear ho hall hl hQ
     generalize InvQ _ _ _ w0 a0 (lq.setIfInBounds 3 true) = K at hK ⊢
     clear hJ2 hS z1 z2 z3 z4 z6 z7
     go_simp
     exact hK _ _ z5 (fun _ _ h => h) rfl
   | 4, ho =>
     cases ho
     refine wpOp_of rfl rfl ?_
     have f3 : (aq.tmps.getD 18 undef) = .bool false := z6 3 18 (hall ⟨3, .data⟩ (by simp) rfl) rfl
     have hK := fun (v : Value) (W2 : World) hW hT hv => hJ2.put hS 4 19 rfl (by omega) (W' := W2) hW hT v hv
     clear ho hall hl hQ
     generalize InvQ _ _ _ w0 a0 (lq.setIfInBounds 4 true) = K at hK ⊢
     clear hJ2 hS z1 z2 z3 z4 z6 z7
     go_simp
     exact hK _ _ z5 (fun _ _ h => h) rfl
   | 5, ho =>
     cases ho
     have fg : aq.tmps.getD 19 undef = .bool false := z6 4 19 (hall ⟨4, .guard⟩ (by simp) rfl) rfl
     refine wpOp_on rfl rfl rfl rfl fg ?_
     have hK := fun (v : Value) (W2 : World) hW hT hv => hJ2.put hS 5 20 rfl (by omega) (W' := W2) hW hT v hv
     clear ho hall hl hQ
     generalize InvQ _ _ _ w0 a0 (lq.setIfInBounds 5 true) = K at hK ⊢
     clear hJ2 hS z1 z2 z3 z4 z6 z7
     go_simp
     exact hK _ _ z5 (fun _ _ h => h) rfl
   | 6, ho =>
     cases ho
     have fg : aq.tmps.getD 19 undef = .bool false := z6 4 19 (hall ⟨4, .guard⟩ (by simp) rfl) rfl
     refine wpOp_on rfl rfl rfl rfl fg ?_
     have f5 : (aq.tmps.getD 20 undef) = .pointer (some ⟨Be, 12, none⟩) := z6 5 20 (hall ⟨5, .data⟩ (by simp) rfl) rfl
     have hK := fun (v : Value) (W2 : World) hW hT hv => hJ2.put hS 6 21 rfl (by omega) (W' := W2) hW hT v hv
     clear ho hall hl hQ
     generalize InvQ _ _ _ w0 a0 (lq.setIfInBounds 6 true) = K at hK ⊢
     clear hJ2 hS z1 z2 z3 z4 z6 z7
     go_simp
     exact hK _ _ z5 (fun _ _ h => h) rfl
   | 7, ho =>
     cases ho
     have fg : aq.tmps.getD 19 undef = .bool false := z6 4 19 (hall ⟨4, .guard⟩ (by simp) rfl) rfl
     refine wpOp_on rfl rfl rfl rfl fg ?_
     have f6 : (aq.tmps.getD 21 undef) = .slice eo m mc := z6 6 21 (hall ⟨6, .data⟩ (by simp) rfl) rfl
     have hK := fun (v : Value) (W2 : World) hW hT hv => hJ2.put hS 7 22 rfl (by omega) (W' := W2) hW hT v hv
     clear ho hall hl hQ
     generalize InvQ _ _ _ w0 a0 (lq.setIfInBounds 7 true) = K at hK ⊢
     clear hJ2 hS z1 z2 z3 z4 z6 z7
     go_simp
     refine (hre W (hNo.step z5)).mono ?_
     rintro e v1 ⟨rfl, hBv⟩
     exact hK _ _ (z5.trans (hBv.mono z5.size)) (fun j v h => h.mono hBv) rfl
   | 8, ho =>
     cases ho
     have fg : aq.tmps.getD 19 undef = .bool false := z6 4 19 (hall ⟨4, .guard⟩ (by simp) rfl) rfl
     refine wpOp_on rfl rfl rfl rfl fg ?_
     have f7 : (aq.tmps.getD 22 undef) = .bool true := z6 7 22 (hall ⟨7, .data⟩ (by simp) rfl) rfl
     have hK := fun (v : Value) (W2 : World) hW hT hv => hJ2.put hS 8 23 rfl (by omega) (W' := W2) hW hT v hv
     clear ho hall hl hQ
     generalize InvQ _ _ _ w0 a0 (lq.setIfInBounds 8 true) = K at hK ⊢
     clear hJ2 hS z1 z2 z3 z4 z6 z7
     go_simp
     exact hK _ _ z5 (fun _ _ h => h) rfl
   | 9, ho =>
     cases ho
     refine wpOp_of rfl rfl ?_
     have f4 : (aq.tmps.getD 19 undef) = .bool false := z6 4 19 (hall ⟨4, .data⟩ (by simp) rfl) rfl
     have f8 : (aq.tmps.getD 23 undef) = .bool false := z6 8 23 (hall ⟨8, .data⟩ (by simp) rfl) rfl
     have hK := fun (v : Value) (W2 : World) hW hT hv => hJ2.put hS 9 24 rfl (by omega) (W' := W2) hW hT v hv
     clear ho hall hl hQ
     generalize InvQ _ _ _ w0 a0 (lq.setIfInBounds 9 true) = K at hK ⊢
     clear hJ2 hS z1 z2 z3 z4 z6 z7
     go_simp
     exact hK _ _ z5 (fun _ _ h => h) rfl
   | 10, ho =>
     cases ho
     refine wpOp_of rfl rfl ?_
     have f9 : (aq.tmps.getD 24 undef) = .bool false := z6 9 24 (hall ⟨9, .data⟩ (by simp) rfl) rfl
     have hK := fun (v : Value) (W2 : World) hW hT hv => hJ2.put hS 10 25 rfl (by omega) (W' := W2) hW hT v hv
     clear ho hall hl hQ
     generalize InvQ _ _ _ w0 a0 (lq.setIfInBounds 10 true) = K at hK ⊢
     clear hJ2 hS z1 z2 z3 z4 z6 z7
     go_simp
     exact hK _ _ z5 (fun _ _ h => h) rfl
   | 11, ho =>
     cases ho
     have fg : aq.tmps.getD 25 undef = .bool false := z6 10 25 (hall ⟨10, .guard⟩ (by simp) rfl) rfl
     refine wpOp_on rfl rfl rfl rfl fg ?_
     have hK := fun (v : Value) (W2 : World) hW hT hv => hJ2.put hS 11 26 rfl (by omega) (W' := W2) hW hT v hv
     clear ho hall hl hQ
     generalize InvQ _ _ _ w0 a0 (lq.setIfInBounds 11 true) = K at hK ⊢
     clear hJ2 hS z1 z2 z3 z4 z6 z7
     go_simp
     exact hK _ _ z5 (fun _ _ h => h) rfl
   | 12, ho =>
     cases ho
     have fg : aq.tmps.getD 25 undef = .bool false := z6 10 25 (hall ⟨10, .guard⟩ (by simp) rfl) rfl
     refine wpOp_on rfl rfl rfl rfl fg ?_
     have f11 : (aq.tmps.getD 26 undef) = .int .i64 (c : Int) := z6 11 26 (hall ⟨11, .data⟩ (by simp) rfl) rfl
     have hgt : (0 : Int) < c := by have ho := hcd.out; omega
     have hK := fun (v : Value) (W2 : World) hW hT hv => hJ2.put hS 12 27 rfl (by omega) (W' := W2) hW hT v hv
     clear ho hall hl hQ
     generalize InvQ _ _ _ w0 a0 (lq.setIfInBounds 12 true) = K at hK ⊢
     clear hJ2 hS z1 z2 z3 z4 z6 z7
     go_simp
     exact hK _ _ z5 (fun _ _ h => h) (by show _ = _; exact congrArg Value.bool (decide_eq_true (by omega)))
   | 13, ho =>
     cases ho
     have fg : aq.tmps.getD 25 undef = .bool false := z6 10 25 (hall ⟨10, .guard⟩ (by simp) rfl) rfl
     refine wpOp_on rfl rfl rfl rfl fg ?_
     have f12 : (aq.tmps.getD 27 undef) = .bool true := z6 12 27 (hall ⟨12, .data⟩ (by simp) rfl) rfl
     have hK := fun (v : Value) (W2 : World) hW hT hv => hJ2.put hS 13 28 rfl (by omega) (W' := W2) hW hT v hv
     clear ho hall hl hQ
     generalize InvQ _ _ _ w0 a0 (lq.setIfInBounds 13 true) = K at hK ⊢
     clear hJ2 hS z1 z2 z3 z4 z6 z7
     go_simp
     exact hK _ _ z5 (fun _ _ h => h) rfl
   | 14, ho =>
     cases ho
     have fg : aq.tmps.getD 28 undef = .bool true := z6 13 28 (hall ⟨13, .guard⟩ (by simp) rfl) rfl
     refine wpOp_on rfl rfl rfl rfl fg ?_
     have hK := fun (v : Value) (W2 : World) hW hT hv => hJ2.put hS 14 29 rfl (by omega) (W' := W2) hW hT v hv
     clear ho hall hl hQ
     generalize InvQ _ _ _ w0 a0 (lq.setIfInBounds 14 true) = K at hK ⊢
     clear hJ2 hS z1 z2 z3 z4 z6 z7
     go_simp
     exact hK _ _ z5 (fun _ _ h => h) rfl
   | 15, ho =>
     cases ho
     have fg : aq.tmps.getD 28 undef = .bool true := z6 13 28 (hall ⟨13, .guard⟩ (by simp) rfl) rfl
     refine wpOp_on rfl rfl rfl rfl fg ?_
     have hK := fun (v : Value) (W2 : World) hW hT hv => hJ2.put hS 15 30 rfl (by omega) (W' := W2) hW hT v hv
     clear ho hall hl hQ
     generalize InvQ _ _ _ w0 a0 (lq.setIfInBounds 15 true) = K at hK ⊢
     clear hJ2 hS z1 z2 z3 z4 z6 z7
     go_simp
     exact hK _ _ z5 (fun _ _ h => h) rfl
   | 16, ho =>
     cases ho
     have fg : aq.tmps.getD 28 undef = .bool true := z6 13 28 (hall ⟨13, .guard⟩ (by simp) rfl) rfl
     refine wpOp_on rfl rfl rfl rfl fg ?_
     have f15 : (aq.tmps.getD 30 undef) = .int .i64 (c : Int) := z6 15 30 (hall ⟨15, .data⟩ (by simp) rfl) rfl
     have hcI : (c : Int) < n := by omega
     have hnI : (n : Int) ≤ 200 := by omega
     have hcz : (c : Int) = d + 1 := by have ho := hcd.out; omega
     have hwd : IntKind.i64.wrap (d : Int) = d := by have ho := hcd.out; rw [IntKind.wrap_i64]; omega
     have hK := fun (v : Value) (W2 : World) hW hT hv => hJ2.put hS 16 31 rfl (by omega) (W' := W2) hW hT v hv
     clear ho hall hl hQ
     generalize InvQ _ _ _ w0 a0 (lq.setIfInBounds 16 true) = K at hK ⊢
     clear hJ2 hS z1 z2 z3 z4 z6 z7
     go_simp
     exact hK _ _ z5 (fun _ _ h => h) (by show _ = _; first | rfl | go_num)
   | 17, ho =>
     cases ho
     have fg : aq.tmps.getD 28 undef = .bool true := z6 13 28 (hall ⟨13, .guard⟩ (by simp) rfl) rfl
     refine wpOp_on rfl rfl rfl rfl fg ?_
     have f14 : (aq.tmps.getD 29 undef) = .slice (some ⟨A, off, none⟩) n cap := z6 14 29 (hall ⟨14, .data⟩ (by simp) rfl) rfl
     have f16 : (aq.tmps.getD 31 undef) = .int .i64 (d : Int) := z6 16 31 (hall ⟨16, .data⟩ (by simp) rfl) rfl
     have hdI : (d : Int) < n := by have ho := hcd.out; omega
     have hnI : (n : Int) ≤ 200 := by omega
     have hK := fun (v : Value) (W2 : World) hW hT hv => hJ2.put hS 17 32 rfl (by omega) (W' := W2) hW hT v hv
     clear ho hall hl hQ
     generalize InvQ _ _ _ w0 a0 (lq.setIfInBounds 17 true) = K at hK ⊢
     clear hJ2 hS z1 z2 z3 z4 z6 z7
     go_simp
     exact hK _ _ z5 (fun _ _ h => h) rfl
   | 18, ho =>
     cases ho
     have fg : aq.tmps.getD 28 undef = .bool true := z6 13 28 (hall ⟨13, .guard⟩ (by simp) rfl) rfl
     refine wpOp_on rfl rfl rfl rfl fg ?_
     have f17 : (aq.tmps.getD 32 undef) = .pointer (some ⟨A, off + d * 13, none⟩) := z6 17 32 (hall ⟨17, .data⟩ (by simp) rfl) rfl
     have hK := fun (v : Value) (W2 : World) hW hT hv => hJ2.put hS 18 33 rfl (by omega) (W' := W2) hW hT v hv
     clear ho hall hl hQ
     generalize InvQ _ _ _ w0 a0 (lq.setIfInBounds 18 true) = K at hK ⊢
     clear hJ2 hS z1 z2 z3 z4 z6 z7
     go_simp
     exact hK _ _ z5 (fun _ _ h => h) rfl
   | 19, ho =>
     cases ho
     have fg : aq.tmps.getD 28 undef = .bool true := z6 13 28 (hall ⟨13, .guard⟩ (by simp) rfl) rfl
     refine wpOp_on rfl rfl rfl rfl fg ?_
     have f18 : (aq.tmps.getD 33 undef) = .pointer (some ⟨A, off + d * 13, none⟩) := z6 18 33 (hall ⟨18, .data⟩ (by simp) rfl) rfl
     have hK := fun (v : Value) (W2 : World) hW hT hv => hJ2.put hS 19 34 rfl (by omega) (W' := W2) hW hT v hv
     clear ho hall hl hQ
     generalize InvQ _ _ _ w0 a0 (lq.setIfInBounds 19 true) = K at hK ⊢
     clear hJ2 hS z1 z2 z3 z4 z6 z7
     go_simp
     exact hK _ _ z5 (fun _ _ h => h) rfl
   | 20, ho =>
     cases ho
     have fg : aq.tmps.getD 28 undef = .bool true := z6 13 28 (hall ⟨13, .guard⟩ (by simp) rfl) rfl
     refine wpOp_on rfl rfl rfl rfl fg ?_
     have hK := fun (v : Value) (W2 : World) hW hT hv => hJ2.put hS 20 35 rfl (by omega) (W' := W2) hW hT v hv
     clear ho hall hl hQ
     generalize InvQ _ _ _ w0 a0 (lq.setIfInBounds 20 true) = K at hK ⊢
     clear hJ2 hS z1 z2 z3 z4 z6 z7
     go_simp
     exact hK _ _ z5 (fun _ _ h => h) rfl
   | 21, ho =>
     cases ho
     have fg : aq.tmps.getD 28 undef = .bool true := z6 13 28 (hall ⟨13, .guard⟩ (by simp) rfl) rfl
     refine wpOp_on rfl rfl rfl rfl fg ?_
     have f20 : (aq.tmps.getD 35 undef) = .pointer (some ⟨Be, 0, none⟩) := z6 20 35 (hall ⟨20, .data⟩ (by simp) rfl) rfl
     have hK := fun (v : Value) (W2 : World) hW hT hv => hJ2.put hS 21 36 rfl (by omega) (W' := W2) hW hT v hv
     clear ho hall hl hQ
     generalize InvQ _ _ _ w0 a0 (lq.setIfInBounds 21 true) = K at hK ⊢
     clear hJ2 hS z1 z2 z3 z4 z6 z7
     go_simp
     exact hK _ _ z5 (fun _ _ h => h) rfl
   | 22, ho =>
     cases ho
     have fg : aq.tmps.getD 28 undef = .bool true := z6 13 28 (hall ⟨13, .guard⟩ (by simp) rfl) rfl
     refine wpOp_on rfl rfl rfl rfl fg ?_
     have f19 : (aq.tmps.getD 34 undef) = PV u vv t := z6 19 34 (hall ⟨19, .data⟩ (by simp) rfl) rfl
     have f21 : (aq.tmps.getD 36 undef) = PV x y z := z6 21 36 (hall ⟨21, .data⟩ (by simp) rfl) rfl
     have hK := fun (v : Value) (W2 : World) hW hT hv => hJ2.put hS 22 37 rfl (by omega) (W' := W2) hW hT v hv
     clear ho hall hl hQ
     generalize InvQ _ _ _ w0 a0 (lq.setIfInBounds 22 true) = K at hK ⊢
     clear hJ2 hS z1 z2 z3 z4 z6 z7
     obtain ⟨-, sx, sy, sz⟩ := ptB_small hp
     obtain ⟨-, su, sv, st⟩ := ptB_small hpu
     go_simp
     refine (order_det u vv t x y z su sv st sx sy sz W).mono ?_
     rintro e v1 ⟨rfl, hBv⟩
     exact hK _ _ (z5.trans (hBv.mono z5.size)) (fun j v h => h.mono hBv) rfl
   | 23, ho =>
     cases ho
     have fg : aq.tmps.getD 28 undef = .bool true := z6 13 28 (hall ⟨13, .guard⟩ (by simp) rfl) rfl
     refine wpOp_on rfl rfl rfl rfl fg ?_
     have f22 : (aq.tmps.getD 37 undef) = .int .i64 (ordI u vv t x y z) := z6 22 37 (hall ⟨22, .data⟩ (by simp) rfl) rfl
     have hK := fun (v : Value) (W2 : World) hW hT hv => hJ2.put hS 23 38 rfl (by omega) (W' := W2) hW hT v hv
     clear ho hall hl hQ
     generalize InvQ _ _ _ w0 a0 (lq.setIfInBounds 23 true) = K at hK ⊢
     clear hJ2 hS z1 z2 z3 z4 z6 z7
     go_simp
     exact hK _ _ z5 (fun _ _ h => h) (by show _ = _; first | rfl | simp)
   | 24, ho =>
     cases ho
     have fg : aq.tmps.getD 25 undef = .bool false := z6 10 25 (hall ⟨10, .guard⟩ (by simp) rfl) rfl
     refine wpOp_on rfl rfl rfl rfl fg ?_
     have f13 : (aq.tmps.getD 28 undef) = .bool true := z6 13 28 (hall ⟨13, .data⟩ (by simp) rfl) rfl
     have f23 : (aq.tmps.getD 38 undef) = .bool (decide (0 ≤ ordI u vv t x y z)) := z6 23 38 (hall ⟨23, .data⟩ (by simp) rfl) rfl
     have hK := fun (v : Value) (W2 : World) hW hT hv => hJ2.put hS 24 39 rfl (by omega) (W' := W2) hW hT v hv
     clear ho hall hl hQ
     generalize InvQ _ _ _ w0 a0 (lq.setIfInBounds 24 true) = K at hK ⊢
     clear hJ2 hS z1 z2 z3 z4 z6 z7
     go_simp
     exact hK _ _ z5 (fun _ _ h => h) rfl
   | 25, ho =>
     cases ho
     refine wpOp_of rfl rfl ?_
     have f10 : (aq.tmps.getD 25 undef) = .bool false := z6 10 25 (hall ⟨10, .data⟩ (by simp) rfl) rfl
     have f24 : (aq.tmps.getD 39 undef) = .bool (decide (0 ≤ ordI u vv t x y z)) := z6 24 39 (hall ⟨24, .data⟩ (by simp) rfl) rfl
     have hK := fun (v : Value) (W2 : World) hW hT hv => hJ2.put hS 25 40 rfl (by omega) (W' := W2) hW hT v hv
     clear ho hall hl hQ
     generalize InvQ _ _ _ w0 a0 (lq.setIfInBounds 25 true) = K at hK ⊢
     clear hJ2 hS z1 z2 z3 z4 z6 z7
     go_simp
     exact hK _ _ z5 (fun _ _ h => h) rfl
   | iq + 26, ho => simp at ho
 · intro lq aq W hJ hr
   obtain ⟨z1, z2, z3, z4, z5, z6, z7⟩ := hJ
   have hl := listed_of hr [0, 1, 2, 3, 4, 5, 6, 7, 8, 9, 10, 11, 12, 13, 14, 15, 16, 17, 18, 19, 20, 21, 22, 23, 24, 25] [] (by simp) (by kernel_rfl) (by rw [z1]; decide)
   exact hQ aq W z2 z3 (fun e he => z4 e (by simpa using he)) (z6 25 40 (hl 25 (by simp)) rfl) z5
end Go.Proofs.YtpmnmlhfaoajdaaGreat
