/- Part 10 of the walks that the proof leans on. -/
import Derived.Test.YthelolpogdcmhaaPart9
import Derived.Test.YthelolpogdcmhaaPart6
namespace Go.Proofs.Ythelolpogdcmhaa
open Go.RowKit
theorem l1InQ_any (x a b : Int) (w : World) : Calls Try.prog 32 #[.int .i64 x, .int .i64 a, .int .i64 b] w (VP (.bool (decide (a ≤ x ∧ x ≤ b))) w) := (l1In_any x a b _ rfl w).mono fun _ _ h => h
theorem specSegQ_any (a b c d : Int) (w : World) : Calls Try.prog 33 #[Sg a b c d] w (VP (.bool (segOk a b c d)) w) := (specSegOk_any a b c d _ rfl w).mono fun _ _ h => h
def VrrA (P A off n cap k_ : Nat) (id : Int) (_B : Nat) : Nat → Value → World → Prop
 | 0, v, _ => v = .pointer (some ⟨P, 2, none⟩)
 | 1, v, _ => v = .slice (some ⟨A, off, none⟩) n cap
 | 2, v, _ => v = .int .i64 (k_ : Int)
 | 3, v, _ => v = .pointer (some ⟨A, off + k_ * 5, none⟩)
 | 4, v, _ => v = .pointer (some ⟨A, off + k_ * 5, none⟩)
 | 5, v, _ => v = .int .i64 id
 | 6, v, _ => v = .bool (decide (1 ≤ id ∧ id ≤ 1000))
 | 7, v, _ => v = .bool true
 | 8, v, _ => v = .bool true
 | 9, v, _ => v = undef
 | 10, v, _ => v = undef
 | 11, v, _ => v = undef
 | 12, v, _ => v = undef
 | 13, v, _ => v = undef
 | 14, v, _ => v = undef
 | 15, v, _ => v = undef
 | 16, v, _ => v = undef
 | 17, v, _ => v = .bool true
 | 18, v, _ => v = .bool true
 | 19, v, _ => v = undef
 | 20, v, _ => v = undef
 | 21, v, _ => v = undef
 | 22, v, _ => v = undef
 | 23, v, _ => v = undef
 | 24, v, _ => v = undef
 | 25, v, _ => v = undef
 | 26, v, _ => v = undef
 | 27, v, _ => v = undef
 | 28, v, _ => v = undef
 | 29, v, _ => v = undef
 | 30, v, _ => v = undef
 | 31, v, _ => v = undef
 | 32, v, _ => v = undef
 | 33, v, _ => v = undef
 | 34, v, _ => v = undef
 | 35, v, _ => v = undef
 | 36, v, _ => v = undef
 | 37, v, _ => v = .bool true
 | _, _, _ => True
theorem VrrA.mono {P A off n cap k_ : Nat} {id : Int} {B j : Nat} {v : Value} {W W2 : World} (_hB : Below W.heap.size W W2) (h : VrrA P A off n cap k_ id B j v W) : VrrA P A off n cap k_ id B j v W2 := by
 unfold VrrA at *
 split <;> simp only at h <;> first | exact h | trivial
set_option maxRecDepth 100000 in
set_option maxHeartbeats 4000000 in
theorem rrA {Q : Exit → Act → World → Prop} {P A off n cap k_ : Nat} {id : Int} {a bb c d : Int} {w0 : World} {a0 : Act} {idq : Nat} {t0 t1 t2 t3 t4 t5 t6 t7 t8 t9 t10 t11 t12 t13 t14 t15 t16 t17 t18 t19 t20 t21 t22 t23 t24 t25 t26 t27 t28 t29 t30 t31 t32 t33 t34 t35 t36 t37 : TypeId} {q0 q1 q2 q3 q4 q5 q6 q7 q8 q9 q10 q11 q12 q13 q14 q15 q16 q17 q18 q19 q20 q21 q22 q23 q24 q25 q26 q27 q28 q29 q30 q31 q32 q33 q34 q35 q36 q37 : String}
   (hq1 : decide (1 ≤ id ∧ id ≤ 1000) = false) (hkn : k_ < n) (hn : n ≤ 40) (h1 : a0.tmps[1]? = some (.pointer (some ⟨P, 0, none⟩))) (h4 : a0.tmps[4]? = some (.int .i64 (k_ : Int))) (k0 : w0.cell? ⟨P, 2, none⟩ = some (.slice (some ⟨A, off, none⟩) n cap)) (l0 : (⟨P, 2, none⟩ : Addr).block < w0.heap.size) (k1 : w0.cell? ⟨A, off + k_ * 5, none⟩ = some (.int .i64 id)) (l1 : (⟨A, off + k_ * 5, none⟩ : Addr).block < w0.heap.size) (k2 : w0.cell? ⟨A, off + k_ * 5 + 1, none⟩ = some (.int .i64 a)) (l2 : (⟨A, off + k_ * 5 + 1, none⟩ : Addr).block < w0.heap.size) (k3 : w0.cell? ⟨A, off + k_ * 5 + 1 + 1, none⟩ = some (.int .i64 bb)) (l3 : (⟨A, off + k_ * 5 + 1 + 1, none⟩ : Addr).block < w0.heap.size) (k4 : w0.cell? ⟨A, off + k_ * 5 + 1 + 2, none⟩ = some (.int .i64 c)) (l4 : (⟨A, off + k_ * 5 + 1 + 2, none⟩ : Addr).block < w0.heap.size) (k5 : w0.cell? ⟨A, off + k_ * 5 + 1 + 3, none⟩ = some (.int .i64 d)) (l5 : (⟨A, off + k_ * 5 + 1 + 3, none⟩ : Addr).block < w0.heap.size) (hz : a0.tmps.size = 100)
   (hQ : ∀ aq W, aq.tmps.size = a0.tmps.size → aq.defers = a0.defers → (∀ e, e ∉ ([34, 35, 36, 37, 38, 39, 40, 41, 42, 43, 44, 45, 46, 47, 48, 49, 50, 51, 52, 53, 54, 55, 56, 57, 58, 59, 60, 61, 62, 63, 64, 65, 66, 67, 68, 69, 70, 71] : List Nat) → aq.tmps[e]? = a0.tmps[e]?) → VrrA P A off n cap k_ id w0.heap.size 37 (aq.tmps.getD 71 undef) W → Below w0.heap.size w0 W → Q .normal aq W) :
   (Code.region idq #[{ dst := some 34, op := Op.fieldAddr 35 (Operand.tmp 1) 2, type := t0, pos := q0, after := #[], guard := none },
   { dst := some 35, op := Op.load 32 (Operand.tmp 34), type := t1, pos := q1, after := #[{ on := 0, ground := Ground.data }], guard := none },
   { dst := some 36, op := Op.move (Operand.tmp 4), type := t2, pos := q2, after := #[], guard := none },
   { dst := some 37, op := Op.indexAddr 32 (Operand.tmp 35) (Operand.tmp 36), type := t3, pos := q3, after := #[{ on := 1, ground := Ground.data }, { on := 2, ground := Ground.data }], guard := none },
   { dst := some 38, op := Op.fieldAddr 56 (Operand.tmp 37) 0, type := t4, pos := q4, after := #[{ on := 3, ground := Ground.data }], guard := none },
   { dst := some 39, op := Op.load 2 (Operand.tmp 38), type := t5, pos := q5, after := #[{ on := 4, ground := Ground.data }], guard := none },
   { dst := some 40, op := Op.call { callee := Callee.value (Operand.func 32), args := #[Operand.tmp 39, Operand.const (Value.int IntKind.i64 1), Operand.const (Value.int IntKind.i64 1000)], argTypes := #[2, 2, 2] }, type := t6, pos := q6, after := #[{ on := 5, ground := Ground.data }], guard := none },
   { dst := some 41, op := Op.unOp UnOp.not 4 (Operand.tmp 40), type := t7, pos := q7, after := #[{ on := 6, ground := Ground.data }], guard := none },
   { dst := some 42, op := Op.move (Operand.tmp 41), type := t8, pos := q8, after := #[{ on := 7, ground := Ground.data }, { on := 6, ground := Ground.chain }], guard := none },
   { dst := some 43, op := Op.fieldAddr 35 (Operand.tmp 1) 2, type := t9, pos := q9, after := #[{ on := 8, ground := Ground.guard }], guard := some (8, false) },
   { dst := some 44, op := Op.load 32 (Operand.tmp 43), type := t10, pos := q10, after := #[{ on := 9, ground := Ground.data }, { on := 8, ground := Ground.guard }], guard := some (8, false) },
   { dst := some 45, op := Op.move (Operand.tmp 4), type := t11, pos := q11, after := #[{ on := 8, ground := Ground.guard }], guard := some (8, false) },
   { dst := some 46, op := Op.indexAddr 32 (Operand.tmp 44) (Operand.tmp 45), type := t12, pos := q12, after := #[{ on := 10, ground := Ground.data }, { on := 11, ground := Ground.data }, { on := 8, ground := Ground.guard }], guard := some (8, false) },
   { dst := some 47, op := Op.fieldAddr 56 (Operand.tmp 46) 1, type := t13, pos := q13, after := #[{ on := 12, ground := Ground.data }, { on := 8, ground := Ground.guard }], guard := some (8, false) },
   { dst := some 48, op := Op.load 54 (Operand.tmp 47), type := t14, pos := q14, after := #[{ on := 13, ground := Ground.data }, { on := 8, ground := Ground.guard }], guard := some (8, false) },
   { dst := some 49, op := Op.call { callee := Callee.value (Operand.func 33), args := #[Operand.tmp 48], argTypes := #[54] }, type := t15, pos := q15, after := #[{ on := 14, ground := Ground.data }, { on := 8, ground := Ground.chain }, { on := 8, ground := Ground.guard }], guard := some (8, false) },
   { dst := some 50, op := Op.unOp UnOp.not 4 (Operand.tmp 49), type := t16, pos := q16, after := #[{ on := 15, ground := Ground.data }, { on := 8, ground := Ground.guard }], guard := some (8, false) },
   { dst := some 51, op := Op.pick (Operand.tmp 42) (Operand.const (Value.bool true)) (Operand.tmp 50), type := t17, pos := q17, after := #[{ on := 8, ground := Ground.data }, { on := 16, ground := Ground.data }], guard := none },
   { dst := some 52, op := Op.move (Operand.tmp 51), type := t18, pos := q18, after := #[{ on := 17, ground := Ground.data }, { on := 15, ground := Ground.chain }], guard := none },
   { dst := some 53, op := Op.move (Operand.tmp 4), type := t19, pos := q19, after := #[{ on := 18, ground := Ground.guard }], guard := some (18, false) },
   { dst := some 54, op := Op.binOp BinOp.gtr 3 (Operand.tmp 53) (Operand.const (Value.int IntKind.i64 0)) 3, type := t20, pos := q20, after := #[{ on := 19, ground := Ground.data }, { on := 18, ground := Ground.guard }], guard := some (18, false) },
   { dst := some 55, op := Op.move (Operand.tmp 54), type := t21, pos := q21, after := #[{ on := 20, ground := Ground.data }, { on := 18, ground := Ground.chain }, { on := 18, ground := Ground.guard }], guard := some (18, false) },
   { dst := some 56, op := Op.fieldAddr 35 (Operand.tmp 1) 2, type := t22, pos := q22, after := #[{ on := 21, ground := Ground.guard }], guard := some (21, true) },
   { dst := some 57, op := Op.load 32 (Operand.tmp 56), type := t23, pos := q23, after := #[{ on := 22, ground := Ground.data }, { on := 21, ground := Ground.guard }], guard := some (21, true) },
   { dst := some 58, op := Op.move (Operand.tmp 4), type := t24, pos := q24, after := #[{ on := 21, ground := Ground.guard }], guard := some (21, true) },
   { dst := some 59, op := Op.binOp BinOp.sub 3 (Operand.tmp 58) (Operand.const (Value.int IntKind.i64 1)) 3, type := t25, pos := q25, after := #[{ on := 24, ground := Ground.data }, { on := 21, ground := Ground.guard }], guard := some (21, true) },
   { dst := some 60, op := Op.indexAddr 32 (Operand.tmp 57) (Operand.tmp 59), type := t26, pos := q26, after := #[{ on := 23, ground := Ground.data }, { on := 25, ground := Ground.data }, { on := 21, ground := Ground.guard }], guard := some (21, true) },
   { dst := some 61, op := Op.fieldAddr 56 (Operand.tmp 60) 0, type := t27, pos := q27, after := #[{ on := 26, ground := Ground.data }, { on := 21, ground := Ground.guard }], guard := some (21, true) },
   { dst := some 62, op := Op.load 2 (Operand.tmp 61), type := t28, pos := q28, after := #[{ on := 27, ground := Ground.data }, { on := 21, ground := Ground.guard }], guard := some (21, true) },
   { dst := some 63, op := Op.fieldAddr 35 (Operand.tmp 1) 2, type := t29, pos := q29, after := #[{ on := 21, ground := Ground.guard }], guard := some (21, true) },
   { dst := some 64, op := Op.load 32 (Operand.tmp 63), type := t30, pos := q30, after := #[{ on := 29, ground := Ground.data }, { on := 21, ground := Ground.guard }], guard := some (21, true) },
   { dst := some 65, op := Op.move (Operand.tmp 4), type := t31, pos := q31, after := #[{ on := 21, ground := Ground.guard }], guard := some (21, true) },
   { dst := some 66, op := Op.indexAddr 32 (Operand.tmp 64) (Operand.tmp 65), type := t32, pos := q32, after := #[{ on := 30, ground := Ground.data }, { on := 31, ground := Ground.data }, { on := 21, ground := Ground.guard }], guard := some (21, true) },
   { dst := some 67, op := Op.fieldAddr 56 (Operand.tmp 66) 0, type := t33, pos := q33, after := #[{ on := 32, ground := Ground.data }, { on := 21, ground := Ground.guard }], guard := some (21, true) },
   { dst := some 68, op := Op.load 2 (Operand.tmp 67), type := t34, pos := q34, after := #[{ on := 33, ground := Ground.data }, { on := 21, ground := Ground.guard }], guard := some (21, true) },
   { dst := some 69, op := Op.binOp BinOp.geq 2 (Operand.tmp 62) (Operand.tmp 68) 2, type := t35, pos := q35, after := #[{ on := 28, ground := Ground.data }, { on := 34, ground := Ground.data }, { on := 21, ground := Ground.guard }], guard := some (21, true) },
   { dst := some 70, op := Op.pick (Operand.tmp 55) (Operand.tmp 69) (Operand.const (Value.bool false)), type := t36, pos := q36, after := #[{ on := 21, ground := Ground.data }, { on := 35, ground := Ground.data }, { on := 18, ground := Ground.guard }], guard := some (18, false) },
   { dst := some 71, op := Op.pick (Operand.tmp 52) (Operand.const (Value.bool true)) (Operand.tmp 70), type := t37, pos := q37, after := #[{ on := 18, ground := Ground.data }, { on := 36, ground := Ground.data }], guard := none }] true).wp Try.prog Q a0 w0 := by
 have hS : distS [some 34, some 35, some 36, some 37, some 38, some 39, some 40, some 41, some 42, some 43, some 44, some 45, some 46, some 47, some 48, some 49, some 50, some 51, some 52, some 53, some 54, some 55, some 56, some 57, some 58, some 59, some 60, some 61, some 62, some 63, some 64, some 65, some 66, some 67, some 68, some 69, some 70, some 71] = true := rfl
 refine wp_region_q (by kernel_rfl) w0.heap.size [some 34, some 35, some 36, some 37, some 38, some 39, some 40, some 41, some 42, some 43, some 44, some 45, some 46, some 47, some 48, some 49, some 50, some 51, some 52, some 53, some 54, some 55, some 56, some 57, some 58, some 59, some 60, some 61, some 62, some 63, some 64, some 65, some 66, some 67, some 68, some 69, some 70, some 71] (VrrA P A off n cap k_ id w0.heap.size) rfl ?_ ?_
 · intro Q lq aq W iq oq hJ hl ho hall
   have hJ2 := hJ
   obtain ⟨z1, z2, z3, z4, z5, z6, z7⟩ := hJ
   have g1 : aq.tmps.getD 1 undef = .pointer (some ⟨P, 0, none⟩) := by rw [Array.getD_eq_getD_getElem?, z4 1 (by decide), h1]; rfl
   have g4 : aq.tmps.getD 4 undef = .int .i64 (k_ : Int) := by rw [Array.getD_eq_getD_getElem?, z4 4 (by decide), h4]; rfl
   have c0 : W.cell? ⟨P, 2, none⟩ = some (.slice (some ⟨A, off, none⟩) n cap) := (z5.cell l0).trans k0
   have c1 : W.cell? ⟨A, off + k_ * 5, none⟩ = some (.int .i64 id) := (z5.cell l1).trans k1
   have c2 : W.cell? ⟨A, off + k_ * 5 + 1, none⟩ = some (.int .i64 a) := (z5.cell l2).trans k2
   have c3 : W.cell? ⟨A, off + k_ * 5 + 1 + 1, none⟩ = some (.int .i64 bb) := (z5.cell l3).trans k3
   have c4 : W.cell? ⟨A, off + k_ * 5 + 1 + 2, none⟩ = some (.int .i64 c) := (z5.cell l4).trans k4
   have c5 : W.cell? ⟨A, off + k_ * 5 + 1 + 3, none⟩ = some (.int .i64 d) := (z5.cell l5).trans k5
   match iq, ho with
   | 0, ho =>
     cases ho
     refine wpOp_of rfl rfl ?_
     have hK := fun (v : Value) (W2 : World) hW hT hv => hJ2.put hS 0 34 rfl (by omega) (W' := W2) hW hT v hv
     clear ho hall hl hQ
     generalize InvQ _ _ _ w0 a0 (lq.setIfInBounds 0 true) = K at hK ⊢
     clear hJ2 hS z1 z2 z3 z4 z6 z7
     go_simp
     exact hK _ _ z5 (fun _ _ h => h) rfl
   | 1, ho =>
     cases ho
     refine wpOp_of rfl rfl ?_
     have f0 : (aq.tmps.getD 34 undef) = .pointer (some ⟨P, 2, none⟩) := z6 0 34 (hall { on := 0, ground := Ground.data } (by simp) rfl) rfl
     have hK := fun (v : Value) (W2 : World) hW hT hv => hJ2.put hS 1 35 rfl (by omega) (W' := W2) hW hT v hv
     clear ho hall hl hQ
     generalize InvQ _ _ _ w0 a0 (lq.setIfInBounds 1 true) = K at hK ⊢
     clear hJ2 hS z1 z2 z3 z4 z6 z7
     go_simp
     exact hK _ _ z5 (fun _ _ h => h) rfl
   | 2, ho =>
     cases ho
     refine wpOp_of rfl rfl ?_
     have hK := fun (v : Value) (W2 : World) hW hT hv => hJ2.put hS 2 36 rfl (by omega) (W' := W2) hW hT v hv
     clear ho hall hl hQ
     generalize InvQ _ _ _ w0 a0 (lq.setIfInBounds 2 true) = K at hK ⊢
     clear hJ2 hS z1 z2 z3 z4 z6 z7
     go_simp
     exact hK _ _ z5 (fun _ _ h => h) rfl
   | 3, ho =>
     cases ho
     refine wpOp_of rfl rfl ?_
     have f1 : (aq.tmps.getD 35 undef) = .slice (some ⟨A, off, none⟩) n cap := z6 1 35 (hall { on := 1, ground := Ground.data } (by simp) rfl) rfl
     have f2 : (aq.tmps.getD 36 undef) = .int .i64 (k_ : Int) := z6 2 36 (hall { on := 2, ground := Ground.data } (by simp) rfl) rfl
     have hkI0 : (k_ : Int) < n := by omega
     have hnI0 : (n : Int) ≤ 40 := by omega
     have hK := fun (v : Value) (W2 : World) hW hT hv => hJ2.put hS 3 37 rfl (by omega) (W' := W2) hW hT v hv
     clear ho hall hl hQ
     generalize InvQ _ _ _ w0 a0 (lq.setIfInBounds 3 true) = K at hK ⊢
     clear hJ2 hS z1 z2 z3 z4 z6 z7
     go_simp
     exact hK _ _ z5 (fun _ _ h => h) rfl
   | 4, ho =>
     cases ho
     refine wpOp_of rfl rfl ?_
     have f3 : (aq.tmps.getD 37 undef) = .pointer (some ⟨A, off + k_ * 5, none⟩) := z6 3 37 (hall { on := 3, ground := Ground.data } (by simp) rfl) rfl
     have hK := fun (v : Value) (W2 : World) hW hT hv => hJ2.put hS 4 38 rfl (by omega) (W' := W2) hW hT v hv
     clear ho hall hl hQ
     generalize InvQ _ _ _ w0 a0 (lq.setIfInBounds 4 true) = K at hK ⊢
     clear hJ2 hS z1 z2 z3 z4 z6 z7
     go_simp
     exact hK _ _ z5 (fun _ _ h => h) rfl
   | 5, ho =>
     cases ho
     refine wpOp_of rfl rfl ?_
     have f4 : (aq.tmps.getD 38 undef) = .pointer (some ⟨A, off + k_ * 5, none⟩) := z6 4 38 (hall { on := 4, ground := Ground.data } (by simp) rfl) rfl
     have hK := fun (v : Value) (W2 : World) hW hT hv => hJ2.put hS 5 39 rfl (by omega) (W' := W2) hW hT v hv
     clear ho hall hl hQ
     generalize InvQ _ _ _ w0 a0 (lq.setIfInBounds 5 true) = K at hK ⊢
     clear hJ2 hS z1 z2 z3 z4 z6 z7
     go_simp
     exact hK _ _ z5 (fun _ _ h => h) rfl
   | 6, ho =>
     cases ho
     refine wpOp_of rfl rfl ?_
     have f5 : (aq.tmps.getD 39 undef) = .int .i64 id := z6 5 39 (hall { on := 5, ground := Ground.data } (by simp) rfl) rfl
     have hK := fun (v : Value) (W2 : World) hW hT hv => hJ2.put hS 6 40 rfl (by omega) (W' := W2) hW hT v hv
     clear ho hall hl hQ
     generalize InvQ _ _ _ w0 a0 (lq.setIfInBounds 6 true) = K at hK ⊢
     clear hJ2 hS z1 z2 z3 z4 z6 z7
     go_simp
     refine (l1InQ_any id 1 1000 W).mono ?_
     rintro e v1 ⟨rfl, hBv⟩
     exact hK _ _ (z5.trans (hBv.mono z5.size)) (fun j v h => h.mono hBv) rfl
   | 7, ho =>
     cases ho
     refine wpOp_of rfl rfl ?_
     have f6 : (aq.tmps.getD 40 undef) = .bool (decide (1 ≤ id ∧ id ≤ 1000)) := z6 6 40 (hall { on := 6, ground := Ground.data } (by simp) rfl) rfl
     rw [hq1] at f6
     have hK := fun (v : Value) (W2 : World) hW hT hv => hJ2.put hS 7 41 rfl (by omega) (W' := W2) hW hT v hv
     clear ho hall hl hQ
     generalize InvQ _ _ _ w0 a0 (lq.setIfInBounds 7 true) = K at hK ⊢
     clear hJ2 hS z1 z2 z3 z4 z6 z7
     go_simp
     exact hK _ _ z5 (fun _ _ h => h) rfl
   | 8, ho =>
     cases ho
     refine wpOp_of rfl rfl ?_
     have f7 : (aq.tmps.getD 41 undef) = .bool true := z6 7 41 (hall { on := 7, ground := Ground.data } (by simp) rfl) rfl
     have hK := fun (v : Value) (W2 : World) hW hT hv => hJ2.put hS 8 42 rfl (by omega) (W' := W2) hW hT v hv
     clear ho hall hl hQ
     generalize InvQ _ _ _ w0 a0 (lq.setIfInBounds 8 true) = K at hK ⊢
     clear hJ2 hS z1 z2 z3 z4 z6 z7
     go_simp
     exact hK _ _ z5 (fun _ _ h => h) rfl
   | 9, ho =>
     cases ho
     have fg : aq.tmps.getD 42 undef = .bool true := z6 8 42 (hall { on := 8, ground := Ground.guard } (by simp) rfl) rfl
     refine wpOp_off rfl rfl rfl rfl fg ?_
     exact hJ2.put hS 9 43 rfl (by omega) z5 (fun _ _ h => h) undef rfl
   | 10, ho =>
     cases ho
     have fg : aq.tmps.getD 42 undef = .bool true := z6 8 42 (hall { on := 8, ground := Ground.guard } (by simp) rfl) rfl
     refine wpOp_off rfl rfl rfl rfl fg ?_
     exact hJ2.put hS 10 44 rfl (by omega) z5 (fun _ _ h => h) undef rfl
   | 11, ho =>
     cases ho
     have fg : aq.tmps.getD 42 undef = .bool true := z6 8 42 (hall { on := 8, ground := Ground.guard } (by simp) rfl) rfl
     refine wpOp_off rfl rfl rfl rfl fg ?_
     exact hJ2.put hS 11 45 rfl (by omega) z5 (fun _ _ h => h) undef rfl
   | 12, ho =>
     cases ho
     have fg : aq.tmps.getD 42 undef = .bool true := z6 8 42 (hall { on := 8, ground := Ground.guard } (by simp) rfl) rfl
     refine wpOp_off rfl rfl rfl rfl fg ?_
     exact hJ2.put hS 12 46 rfl (by omega) z5 (fun _ _ h => h) undef rfl
   | 13, ho =>
     cases ho
     have fg : aq.tmps.getD 42 undef = .bool true := z6 8 42 (hall { on := 8, ground := Ground.guard } (by simp) rfl) rfl
     refine wpOp_off rfl rfl rfl rfl fg ?_
     exact hJ2.put hS 13 47 rfl (by omega) z5 (fun _ _ h => h) undef rfl
   | 14, ho =>
     cases ho
     have fg : aq.tmps.getD 42 undef = .bool true := z6 8 42 (hall { on := 8, ground := Ground.guard } (by simp) rfl) rfl
     refine wpOp_off rfl rfl rfl rfl fg ?_
     exact hJ2.put hS 14 48 rfl (by omega) z5 (fun _ _ h => h) undef rfl
   | 15, ho =>
     cases ho
     have fg : aq.tmps.getD 42 undef = .bool true := z6 8 42 (hall { on := 8, ground := Ground.guard } (by simp) rfl) rfl
     refine wpOp_off rfl rfl rfl rfl fg ?_
     exact hJ2.put hS 15 49 rfl (by omega) z5 (fun _ _ h => h) undef rfl
   | 16, ho =>
     cases ho
     have fg : aq.tmps.getD 42 undef = .bool true := z6 8 42 (hall { on := 8, ground := Ground.guard } (by simp) rfl) rfl
     refine wpOp_off rfl rfl rfl rfl fg ?_
     exact hJ2.put hS 16 50 rfl (by omega) z5 (fun _ _ h => h) undef rfl
   | 17, ho =>
     cases ho
     refine wpOp_of rfl rfl ?_
     have f8 : (aq.tmps.getD 42 undef) = .bool true := z6 8 42 (hall { on := 8, ground := Ground.data } (by simp) rfl) rfl
     have f16 : (aq.tmps.getD 50 undef) = undef := z6 16 50 (hall { on := 16, ground := Ground.data } (by simp) rfl) rfl
     have hK := fun (v : Value) (W2 : World) hW hT hv => hJ2.put hS 17 51 rfl (by omega) (W' := W2) hW hT v hv
     clear ho hall hl hQ
     generalize InvQ _ _ _ w0 a0 (lq.setIfInBounds 17 true) = K at hK ⊢
     clear hJ2 hS z1 z2 z3 z4 z6 z7
     go_simp
     exact hK _ _ z5 (fun _ _ h => h) rfl
   | 18, ho =>
     cases ho
     refine wpOp_of rfl rfl ?_
     have f17 : (aq.tmps.getD 51 undef) = .bool true := z6 17 51 (hall { on := 17, ground := Ground.data } (by simp) rfl) rfl
     have hK := fun (v : Value) (W2 : World) hW hT hv => hJ2.put hS 18 52 rfl (by omega) (W' := W2) hW hT v hv
     clear ho hall hl hQ
     generalize InvQ _ _ _ w0 a0 (lq.setIfInBounds 18 true) = K at hK ⊢
     clear hJ2 hS z1 z2 z3 z4 z6 z7
     go_simp
     exact hK _ _ z5 (fun _ _ h => h) rfl
   | 19, ho =>
     cases ho
     have fg : aq.tmps.getD 52 undef = .bool true := z6 18 52 (hall { on := 18, ground := Ground.guard } (by simp) rfl) rfl
     refine wpOp_off rfl rfl rfl rfl fg ?_
     exact hJ2.put hS 19 53 rfl (by omega) z5 (fun _ _ h => h) undef rfl
   | 20, ho =>
     cases ho
     have fg : aq.tmps.getD 52 undef = .bool true := z6 18 52 (hall { on := 18, ground := Ground.guard } (by simp) rfl) rfl
     refine wpOp_off rfl rfl rfl rfl fg ?_
     exact hJ2.put hS 20 54 rfl (by omega) z5 (fun _ _ h => h) undef rfl
   | 21, ho =>
     cases ho
     have fg : aq.tmps.getD 52 undef = .bool true := z6 18 52 (hall { on := 18, ground := Ground.guard } (by simp) rfl) rfl
     refine wpOp_off rfl rfl rfl rfl fg ?_
     exact hJ2.put hS 21 55 rfl (by omega) z5 (fun _ _ h => h) undef rfl
   | 22, ho =>
     cases ho
     have fg : aq.tmps.getD 55 undef = undef := z6 21 55 (hall { on := 21, ground := Ground.guard } (by simp) rfl) rfl
     refine wpOp_offu rfl rfl rfl rfl fg ?_
     exact hJ2.put hS 22 56 rfl (by omega) z5 (fun _ _ h => h) undef rfl
   | 23, ho =>
     cases ho
     have fg : aq.tmps.getD 55 undef = undef := z6 21 55 (hall { on := 21, ground := Ground.guard } (by simp) rfl) rfl
     refine wpOp_offu rfl rfl rfl rfl fg ?_
     exact hJ2.put hS 23 57 rfl (by omega) z5 (fun _ _ h => h) undef rfl
   | 24, ho =>
     cases ho
     have fg : aq.tmps.getD 55 undef = undef := z6 21 55 (hall { on := 21, ground := Ground.guard } (by simp) rfl) rfl
     refine wpOp_offu rfl rfl rfl rfl fg ?_
     exact hJ2.put hS 24 58 rfl (by omega) z5 (fun _ _ h => h) undef rfl
   | 25, ho =>
     cases ho
     have fg : aq.tmps.getD 55 undef = undef := z6 21 55 (hall { on := 21, ground := Ground.guard } (by simp) rfl) rfl
     refine wpOp_offu rfl rfl rfl rfl fg ?_
     exact hJ2.put hS 25 59 rfl (by omega) z5 (fun _ _ h => h) undef rfl
   | 26, ho =>
     cases ho
     have fg : aq.tmps.getD 55 undef = undef := z6 21 55 (hall { on := 21, ground := Ground.guard } (by simp) rfl) rfl
     refine wpOp_offu rfl rfl rfl rfl fg ?_
     exact hJ2.put hS 26 60 rfl (by omega) z5 (fun _ _ h => h) undef rfl
   | 27, ho =>
     cases ho
     have fg : aq.tmps.getD 55 undef = undef := z6 21 55 (hall { on := 21, ground := Ground.guard } (by simp) rfl) rfl
     refine wpOp_offu rfl rfl rfl rfl fg ?_
     exact hJ2.put hS 27 61 rfl (by omega) z5 (fun _ _ h => h) undef rfl
   | 28, ho =>
     cases ho
     have fg : aq.tmps.getD 55 undef = undef := z6 21 55 (hall { on := 21, ground := Ground.guard } (by simp) rfl) rfl
     refine wpOp_offu rfl rfl rfl rfl fg ?_
     exact hJ2.put hS 28 62 rfl (by omega) z5 (fun _ _ h => h) undef rfl
   | 29, ho =>
     cases ho
     have fg : aq.tmps.getD 55 undef = undef := z6 21 55 (hall { on := 21, ground := Ground.guard } (by simp) rfl) rfl
     refine wpOp_offu rfl rfl rfl rfl fg ?_
     exact hJ2.put hS 29 63 rfl (by omega) z5 (fun _ _ h => h) undef rfl
   | 30, ho =>
     cases ho
     have fg : aq.tmps.getD 55 undef = undef := z6 21 55 (hall { on := 21, ground := Ground.guard } (by simp) rfl) rfl
     refine wpOp_offu rfl rfl rfl rfl fg ?_
     exact hJ2.put hS 30 64 rfl (by omega) z5 (fun _ _ h => h) undef rfl
   | 31, ho =>
     cases ho
     have fg : aq.tmps.getD 55 undef = undef := z6 21 55 (hall { on := 21, ground := Ground.guard } (by simp) rfl) rfl
     refine wpOp_offu rfl rfl rfl rfl fg ?_
     exact hJ2.put hS 31 65 rfl (by omega) z5 (fun _ _ h => h) undef rfl
   | 32, ho =>
     cases ho
     have fg : aq.tmps.getD 55 undef = undef := z6 21 55 (hall { on := 21, ground := Ground.guard } (by simp) rfl) rfl
     refine wpOp_offu rfl rfl rfl rfl fg ?_
     exact hJ2.put hS 32 66 rfl (by omega) z5 (fun _ _ h => h) undef rfl
   | 33, ho =>
     cases ho
     have fg : aq.tmps.getD 55 undef = undef := z6 21 55 (hall { on := 21, ground := Ground.guard } (by simp) rfl) rfl
     refine wpOp_offu rfl rfl rfl rfl fg ?_
     exact hJ2.put hS 33 67 rfl (by omega) z5 (fun _ _ h => h) undef rfl
   | 34, ho =>
     cases ho
     have fg : aq.tmps.getD 55 undef = undef := z6 21 55 (hall { on := 21, ground := Ground.guard } (by simp) rfl) rfl
     refine wpOp_offu rfl rfl rfl rfl fg ?_
     exact hJ2.put hS 34 68 rfl (by omega) z5 (fun _ _ h => h) undef rfl
   | 35, ho =>
     cases ho
     have fg : aq.tmps.getD 55 undef = undef := z6 21 55 (hall { on := 21, ground := Ground.guard } (by simp) rfl) rfl
     refine wpOp_offu rfl rfl rfl rfl fg ?_
     exact hJ2.put hS 35 69 rfl (by omega) z5 (fun _ _ h => h) undef rfl
   | 36, ho =>
     cases ho
     have fg : aq.tmps.getD 52 undef = .bool true := z6 18 52 (hall { on := 18, ground := Ground.guard } (by simp) rfl) rfl
     refine wpOp_off rfl rfl rfl rfl fg ?_
     exact hJ2.put hS 36 70 rfl (by omega) z5 (fun _ _ h => h) undef rfl
   | 37, ho =>
     cases ho
     refine wpOp_of rfl rfl ?_
     have f18 : (aq.tmps.getD 52 undef) = .bool true := z6 18 52 (hall { on := 18, ground := Ground.data } (by simp) rfl) rfl
     have f36 : (aq.tmps.getD 70 undef) = undef := z6 36 70 (hall { on := 36, ground := Ground.data } (by simp) rfl) rfl
     have hK := fun (v : Value) (W2 : World) hW hT hv => hJ2.put hS 37 71 rfl (by omega) (W' := W2) hW hT v hv
     clear ho hall hl hQ
     generalize InvQ _ _ _ w0 a0 (lq.setIfInBounds 37 true) = K at hK ⊢
     clear hJ2 hS z1 z2 z3 z4 z6 z7
     go_simp
     exact hK _ _ z5 (fun _ _ h => h) rfl
   | iq + 38, ho => simp at ho
 · intro lq aq W hJ hr
   obtain ⟨z1, z2, z3, z4, z5, z6, z7⟩ := hJ
   have hl := listed_of hr [0, 1, 2, 3, 4, 5, 6, 7, 8, 9, 10, 11, 12, 13, 14, 15, 16, 17, 18, 19, 20, 21, 22, 23, 24, 25, 26, 27, 28, 29, 30, 31, 32, 33, 34, 35, 36, 37] [] (by simp) (by kernel_rfl) (by rw [z1]; decide)
   exact hQ aq W z2 z3 (fun e he => z4 e (by simpa using he)) (z6 37 71 (hl 37 (by simp)) rfl) z5
def VrrB (P A off n cap k_ : Nat) (id a bb c d : Int) (_B : Nat) : Nat → Value → World → Prop
 | 0, v, _ => v = .pointer (some ⟨P, 2, none⟩)
 | 1, v, _ => v = .slice (some ⟨A, off, none⟩) n cap
 | 2, v, _ => v = .int .i64 (k_ : Int)
 | 3, v, _ => v = .pointer (some ⟨A, off + k_ * 5, none⟩)
 | 4, v, _ => v = .pointer (some ⟨A, off + k_ * 5, none⟩)
 | 5, v, _ => v = .int .i64 id
 | 6, v, _ => v = .bool (decide (1 ≤ id ∧ id ≤ 1000))
 | 7, v, _ => v = .bool false
 | 8, v, _ => v = .bool false
 | 9, v, _ => v = .pointer (some ⟨P, 2, none⟩)
 | 10, v, _ => v = .slice (some ⟨A, off, none⟩) n cap
 | 11, v, _ => v = .int .i64 (k_ : Int)
 | 12, v, _ => v = .pointer (some ⟨A, off + k_ * 5, none⟩)
 | 13, v, _ => v = .pointer (some ⟨A, off + k_ * 5 + 1, none⟩)
 | 14, v, _ => v = Sg a bb c d
 | 15, v, _ => v = .bool (segOk a bb c d)
 | 16, v, _ => v = .bool true
 | 17, v, _ => v = .bool true
 | 18, v, _ => v = .bool true
 | 19, v, _ => v = undef
 | 20, v, _ => v = undef
 | 21, v, _ => v = undef
 | 22, v, _ => v = undef
 | 23, v, _ => v = undef
 | 24, v, _ => v = undef
 | 25, v, _ => v = undef
 | 26, v, _ => v = undef
 | 27, v, _ => v = undef
 | 28, v, _ => v = undef
 | 29, v, _ => v = undef
 | 30, v, _ => v = undef
 | 31, v, _ => v = undef
 | 32, v, _ => v = undef
 | 33, v, _ => v = undef
 | 34, v, _ => v = undef
 | 35, v, _ => v = undef
 | 36, v, _ => v = undef
 | 37, v, _ => v = .bool true
 | _, _, _ => True
theorem VrrB.mono {P A off n cap k_ : Nat} {id a bb c d : Int} {B j : Nat} {v : Value} {W W2 : World} (_hB : Below W.heap.size W W2) (h : VrrB P A off n cap k_ id a bb c d B j v W) : VrrB P A off n cap k_ id a bb c d B j v W2 := by
 unfold VrrB at *
 split <;> simp only at h <;> first | exact h | trivial
set_option maxRecDepth 100000 in
set_option maxHeartbeats 4000000 in
theorem rrB {Q : Exit → Act → World → Prop} {P A off n cap k_ : Nat} {id a bb c d : Int}  {w0 : World} {a0 : Act} {idq : Nat} {t0 t1 t2 t3 t4 t5 t6 t7 t8 t9 t10 t11 t12 t13 t14 t15 t16 t17 t18 t19 t20 t21 t22 t23 t24 t25 t26 t27 t28 t29 t30 t31 t32 t33 t34 t35 t36 t37 : TypeId} {q0 q1 q2 q3 q4 q5 q6 q7 q8 q9 q10 q11 q12 q13 q14 q15 q16 q17 q18 q19 q20 q21 q22 q23 q24 q25 q26 q27 q28 q29 q30 q31 q32 q33 q34 q35 q36 q37 : String}
   (hq1 : decide (1 ≤ id ∧ id ≤ 1000) = true) (hkn : k_ < n) (hn : n ≤ 40) (hq2 : segOk a bb c d = false) (h1 : a0.tmps[1]? = some (.pointer (some ⟨P, 0, none⟩))) (h4 : a0.tmps[4]? = some (.int .i64 (k_ : Int))) (k0 : w0.cell? ⟨P, 2, none⟩ = some (.slice (some ⟨A, off, none⟩) n cap)) (l0 : (⟨P, 2, none⟩ : Addr).block < w0.heap.size) (k1 : w0.cell? ⟨A, off + k_ * 5, none⟩ = some (.int .i64 id)) (l1 : (⟨A, off + k_ * 5, none⟩ : Addr).block < w0.heap.size) (k2 : w0.cell? ⟨A, off + k_ * 5 + 1, none⟩ = some (.int .i64 a)) (l2 : (⟨A, off + k_ * 5 + 1, none⟩ : Addr).block < w0.heap.size) (k3 : w0.cell? ⟨A, off + k_ * 5 + 1 + 1, none⟩ = some (.int .i64 bb)) (l3 : (⟨A, off + k_ * 5 + 1 + 1, none⟩ : Addr).block < w0.heap.size) (k4 : w0.cell? ⟨A, off + k_ * 5 + 1 + 2, none⟩ = some (.int .i64 c)) (l4 : (⟨A, off + k_ * 5 + 1 + 2, none⟩ : Addr).block < w0.heap.size) (k5 : w0.cell? ⟨A, off + k_ * 5 + 1 + 3, none⟩ = some (.int .i64 d)) (l5 : (⟨A, off + k_ * 5 + 1 + 3, none⟩ : Addr).block < w0.heap.size) (hz : a0.tmps.size = 100)
   (hQ : ∀ aq W, aq.tmps.size = a0.tmps.size → aq.defers = a0.defers → (∀ e, e ∉ ([34, 35, 36, 37, 38, 39, 40, 41, 42, 43, 44, 45, 46, 47, 48, 49, 50, 51, 52, 53, 54, 55, 56, 57, 58, 59, 60, 61, 62, 63, 64, 65, 66, 67, 68, 69, 70, 71] : List Nat) → aq.tmps[e]? = a0.tmps[e]?) → VrrB P A off n cap k_ id a bb c d w0.heap.size 37 (aq.tmps.getD 71 undef) W → Below w0.heap.size w0 W → Q .normal aq W) :
   (Code.region idq #[{ dst := some 34, op := Op.fieldAddr 35 (Operand.tmp 1) 2, type := t0, pos := q0, after := #[], guard := none },
   { dst := some 35, op := Op.load 32 (Operand.tmp 34), type := t1, pos := q1, after := #[{ on := 0, ground := Ground.data }], guard := none },
   { dst := some 36, op := Op.move (Operand.tmp 4), type := t2, pos := q2, after := #[], guard := none },
   { dst := some 37, op := Op.indexAddr 32 (Operand.tmp 35) (Operand.tmp 36), type := t3, pos := q3, after := #[{ on := 1, ground := Ground.data }, { on := 2, ground := Ground.data }], guard := none },
   { dst := some 38, op := Op.fieldAddr 56 (Operand.tmp 37) 0, type := t4, pos := q4, after := #[{ on := 3, ground := Ground.data }], guard := none },
   { dst := some 39, op := Op.load 2 (Operand.tmp 38), type := t5, pos := q5, after := #[{ on := 4, ground := Ground.data }], guard := none },
   { dst := some 40, op := Op.call { callee := Callee.value (Operand.func 32), args := #[Operand.tmp 39, Operand.const (Value.int IntKind.i64 1), Operand.const (Value.int IntKind.i64 1000)], argTypes := #[2, 2, 2] }, type := t6, pos := q6, after := #[{ on := 5, ground := Ground.data }], guard := none },
   { dst := some 41, op := Op.unOp UnOp.not 4 (Operand.tmp 40), type := t7, pos := q7, after := #[{ on := 6, ground := Ground.data }], guard := none },
   { dst := some 42, op := Op.move (Operand.tmp 41), type := t8, pos := q8, after := #[{ on := 7, ground := Ground.data }, { on := 6, ground := Ground.chain }], guard := none },
   { dst := some 43, op := Op.fieldAddr 35 (Operand.tmp 1) 2, type := t9, pos := q9, after := #[{ on := 8, ground := Ground.guard }], guard := some (8, false) },
   { dst := some 44, op := Op.load 32 (Operand.tmp 43), type := t10, pos := q10, after := #[{ on := 9, ground := Ground.data }, { on := 8, ground := Ground.guard }], guard := some (8, false) },
   { dst := some 45, op := Op.move (Operand.tmp 4), type := t11, pos := q11, after := #[{ on := 8, ground := Ground.guard }], guard := some (8, false) },
   { dst := some 46, op := Op.indexAddr 32 (Operand.tmp 44) (Operand.tmp 45), type := t12, pos := q12, after := #[{ on := 10, ground := Ground.data }, { on := 11, ground := Ground.data }, { on := 8, ground := Ground.guard }], guard := some (8, false) },
   { dst := some 47, op := Op.fieldAddr 56 (Operand.tmp 46) 1, type := t13, pos := q13, after := #[{ on := 12, ground := Ground.data }, { on := 8, ground := Ground.guard }], guard := some (8, false) },
   { dst := some 48, op := Op.load 54 (Operand.tmp 47), type := t14, pos := q14, after := #[{ on := 13, ground := Ground.data }, { on := 8, ground := Ground.guard }], guard := some (8, false) },
   { dst := some 49, op := Op.call { callee := Callee.value (Operand.func 33), args := #[Operand.tmp 48], argTypes := #[54] }, type := t15, pos := q15, after := #[{ on := 14, ground := Ground.data }, { on := 8, ground := Ground.chain }, { on := 8, ground := Ground.guard }], guard := some (8, false) },
   { dst := some 50, op := Op.unOp UnOp.not 4 (Operand.tmp 49), type := t16, pos := q16, after := #[{ on := 15, ground := Ground.data }, { on := 8, ground := Ground.guard }], guard := some (8, false) },
   { dst := some 51, op := Op.pick (Operand.tmp 42) (Operand.const (Value.bool true)) (Operand.tmp 50), type := t17, pos := q17, after := #[{ on := 8, ground := Ground.data }, { on := 16, ground := Ground.data }], guard := none },
   { dst := some 52, op := Op.move (Operand.tmp 51), type := t18, pos := q18, after := #[{ on := 17, ground := Ground.data }, { on := 15, ground := Ground.chain }], guard := none },
   { dst := some 53, op := Op.move (Operand.tmp 4), type := t19, pos := q19, after := #[{ on := 18, ground := Ground.guard }], guard := some (18, false) },
   { dst := some 54, op := Op.binOp BinOp.gtr 3 (Operand.tmp 53) (Operand.const (Value.int IntKind.i64 0)) 3, type := t20, pos := q20, after := #[{ on := 19, ground := Ground.data }, { on := 18, ground := Ground.guard }], guard := some (18, false) },
   { dst := some 55, op := Op.move (Operand.tmp 54), type := t21, pos := q21, after := #[{ on := 20, ground := Ground.data }, { on := 18, ground := Ground.chain }, { on := 18, ground := Ground.guard }], guard := some (18, false) },
   { dst := some 56, op := Op.fieldAddr 35 (Operand.tmp 1) 2, type := t22, pos := q22, after := #[{ on := 21, ground := Ground.guard }], guard := some (21, true) },
   { dst := some 57, op := Op.load 32 (Operand.tmp 56), type := t23, pos := q23, after := #[{ on := 22, ground := Ground.data }, { on := 21, ground := Ground.guard }], guard := some (21, true) },
   { dst := some 58, op := Op.move (Operand.tmp 4), type := t24, pos := q24, after := #[{ on := 21, ground := Ground.guard }], guard := some (21, true) },
   { dst := some 59, op := Op.binOp BinOp.sub 3 (Operand.tmp 58) (Operand.const (Value.int IntKind.i64 1)) 3, type := t25, pos := q25, after := #[{ on := 24, ground := Ground.data }, { on := 21, ground := Ground.guard }], guard := some (21, true) },
   { dst := some 60, op := Op.indexAddr 32 (Operand.tmp 57) (Operand.tmp 59), type := t26, pos := q26, after := #[{ on := 23, ground := Ground.data }, { on := 25, ground := Ground.data }, { on := 21, ground := Ground.guard }], guard := some (21, true) },
   { dst := some 61, op := Op.fieldAddr 56 (Operand.tmp 60) 0, type := t27, pos := q27, after := #[{ on := 26, ground := Ground.data }, { on := 21, ground := Ground.guard }], guard := some (21, true) },
   { dst := some 62, op := Op.load 2 (Operand.tmp 61), type := t28, pos := q28, after := #[{ on := 27, ground := Ground.data }, { on := 21, ground := Ground.guard }], guard := some (21, true) },
   { dst := some 63, op := Op.fieldAddr 35 (Operand.tmp 1) 2, type := t29, pos := q29, after := #[{ on := 21, ground := Ground.guard }], guard := some (21, true) },
   { dst := some 64, op := Op.load 32 (Operand.tmp 63), type := t30, pos := q30, after := #[{ on := 29, ground := Ground.data }, { on := 21, ground := Ground.guard }], guard := some (21, true) },
   { dst := some 65, op := Op.move (Operand.tmp 4), type := t31, pos := q31, after := #[{ on := 21, ground := Ground.guard }], guard := some (21, true) },
   { dst := some 66, op := Op.indexAddr 32 (Operand.tmp 64) (Operand.tmp 65), type := t32, pos := q32, after := #[{ on := 30, ground := Ground.data }, { on := 31, ground := Ground.data }, { on := 21, ground := Ground.guard }], guard := some (21, true) },
   { dst := some 67, op := Op.fieldAddr 56 (Operand.tmp 66) 0, type := t33, pos := q33, after := #[{ on := 32, ground := Ground.data }, { on := 21, ground := Ground.guard }], guard := some (21, true) },
   { dst := some 68, op := Op.load 2 (Operand.tmp 67), type := t34, pos := q34, after := #[{ on := 33, ground := Ground.data }, { on := 21, ground := Ground.guard }], guard := some (21, true) },
   { dst := some 69, op := Op.binOp BinOp.geq 2 (Operand.tmp 62) (Operand.tmp 68) 2, type := t35, pos := q35, after := #[{ on := 28, ground := Ground.data }, { on := 34, ground := Ground.data }, { on := 21, ground := Ground.guard }], guard := some (21, true) },
   { dst := some 70, op := Op.pick (Operand.tmp 55) (Operand.tmp 69) (Operand.const (Value.bool false)), type := t36, pos := q36, after := #[{ on := 21, ground := Ground.data }, { on := 35, ground := Ground.data }, { on := 18, ground := Ground.guard }], guard := some (18, false) },
   { dst := some 71, op := Op.pick (Operand.tmp 52) (Operand.const (Value.bool true)) (Operand.tmp 70), type := t37, pos := q37, after := #[{ on := 18, ground := Ground.data }, { on := 36, ground := Ground.data }], guard := none }] true).wp Try.prog Q a0 w0 := by
 have hS : distS [some 34, some 35, some 36, some 37, some 38, some 39, some 40, some 41, some 42, some 43, some 44, some 45, some 46, some 47, some 48, some 49, some 50, some 51, some 52, some 53, some 54, some 55, some 56, some 57, some 58, some 59, some 60, some 61, some 62, some 63, some 64, some 65, some 66, some 67, some 68, some 69, some 70, some 71] = true := rfl
 refine wp_region_q (by kernel_rfl) w0.heap.size [some 34, some 35, some 36, some 37, some 38, some 39, some 40, some 41, some 42, some 43, some 44, some 45, some 46, some 47, some 48, some 49, some 50, some 51, some 52, some 53, some 54, some 55, some 56, some 57, some 58, some 59, some 60, some 61, some 62, some 63, some 64, some 65, some 66, some 67, some 68, some 69, some 70, some 71] (VrrB P A off n cap k_ id a bb c d w0.heap.size) rfl ?_ ?_
 · intro Q lq aq W iq oq hJ hl ho hall
   have hJ2 := hJ
   obtain ⟨z1, z2, z3, z4, z5, z6, z7⟩ := hJ
   have g1 : aq.tmps.getD 1 undef = .pointer (some ⟨P, 0, none⟩) := by rw [Array.getD_eq_getD_getElem?, z4 1 (by decide), h1]; rfl
   have g4 : aq.tmps.getD 4 undef = .int .i64 (k_ : Int) := by rw [Array.getD_eq_getD_getElem?, z4 4 (by decide), h4]; rfl
   have c0 : W.cell? ⟨P, 2, none⟩ = some (.slice (some ⟨A, off, none⟩) n cap) := (z5.cell l0).trans k0
   have c1 : W.cell? ⟨A, off + k_ * 5, none⟩ = some (.int .i64 id) := (z5.cell l1).trans k1
   have c2 : W.cell? ⟨A, off + k_ * 5 + 1, none⟩ = some (.int .i64 a) := (z5.cell l2).trans k2
   have c3 : W.cell? ⟨A, off + k_ * 5 + 1 + 1, none⟩ = some (.int .i64 bb) := (z5.cell l3).trans k3
   have c4 : W.cell? ⟨A, off + k_ * 5 + 1 + 2, none⟩ = some (.int .i64 c) := (z5.cell l4).trans k4
   have c5 : W.cell? ⟨A, off + k_ * 5 + 1 + 3, none⟩ = some (.int .i64 d) := (z5.cell l5).trans k5
   match iq, ho with
   | 0, ho =>
     cases ho
     refine wpOp_of rfl rfl ?_
     have hK := fun (v : Value) (W2 : World) hW hT hv => hJ2.put hS 0 34 rfl (by omega) (W' := W2) hW hT v hv
     clear ho hall hl hQ
     generalize InvQ _ _ _ w0 a0 (lq.setIfInBounds 0 true) = K at hK ⊢
     clear hJ2 hS z1 z2 z3 z4 z6 z7
     go_simp
     exact hK _ _ z5 (fun _ _ h => h) rfl
   | 1, ho =>
     cases ho
     refine wpOp_of rfl rfl ?_
     have f0 : (aq.tmps.getD 34 undef) = .pointer (some ⟨P, 2, none⟩) := z6 0 34 (hall { on := 0, ground := Ground.data } (by simp) rfl) rfl
     have hK := fun (v : Value) (W2 : World) hW hT hv => hJ2.put hS 1 35 rfl (by omega) (W' := W2) hW hT v hv
     clear ho hall hl hQ
     generalize InvQ _ _ _ w0 a0 (lq.setIfInBounds 1 true) = K at hK ⊢
     clear hJ2 hS z1 z2 z3 z4 z6 z7
     go_simp
     exact hK _ _ z5 (fun _ _ h => h) rfl
   | 2, ho =>
     cases ho
     refine wpOp_of rfl rfl ?_
     have hK := fun (v : Value) (W2 : World) hW hT hv => hJ2.put hS 2 36 rfl (by omega) (W' := W2) hW hT v hv
     clear ho hall hl hQ
     generalize InvQ _ _ _ w0 a0 (lq.setIfInBounds 2 true) = K at hK ⊢
     clear hJ2 hS z1 z2 z3 z4 z6 z7
     go_simp
     exact hK _ _ z5 (fun _ _ h => h) rfl
   | 3, ho =>
     cases ho
     refine wpOp_of rfl rfl ?_
     have f1 : (aq.tmps.getD 35 undef) = .slice (some ⟨A, off, none⟩) n cap := z6 1 35 (hall { on := 1, ground := Ground.data } (by simp) rfl) rfl
     have f2 : (aq.tmps.getD 36 undef) = .int .i64 (k_ : Int) := z6 2 36 (hall { on := 2, ground := Ground.data } (by simp) rfl) rfl
     have hkI0 : (k_ : Int) < n := by omega
     have hnI0 : (n : Int) ≤ 40 := by omega
     have hK := fun (v : Value) (W2 : World) hW hT hv => hJ2.put hS 3 37 rfl (by omega) (W' := W2) hW hT v hv
     clear ho hall hl hQ
     generalize InvQ _ _ _ w0 a0 (lq.setIfInBounds 3 true) = K at hK ⊢
     clear hJ2 hS z1 z2 z3 z4 z6 z7
     go_simp
     exact hK _ _ z5 (fun _ _ h => h) rfl
   | 4, ho =>
     cases ho
     refine wpOp_of rfl rfl ?_
     have f3 : (aq.tmps.getD 37 undef) = .pointer (some ⟨A, off + k_ * 5, none⟩) := z6 3 37 (hall { on := 3, ground := Ground.data } (by simp) rfl) rfl
     have hK := fun (v : Value) (W2 : World) hW hT hv => hJ2.put hS 4 38 rfl (by omega) (W' := W2) hW hT v hv
     clear ho hall hl hQ
     generalize InvQ _ _ _ w0 a0 (lq.setIfInBounds 4 true) = K at hK ⊢
     clear hJ2 hS z1 z2 z3 z4 z6 z7
     go_simp
     exact hK _ _ z5 (fun _ _ h => h) rfl
   | 5, ho =>
     cases ho
     refine wpOp_of rfl rfl ?_
     have f4 : (aq.tmps.getD 38 undef) = .pointer (some ⟨A, off + k_ * 5, none⟩) := z6 4 38 (hall { on := 4, ground := Ground.data } (by simp) rfl) rfl
     have hK := fun (v : Value) (W2 : World) hW hT hv => hJ2.put hS 5 39 rfl (by omega) (W' := W2) hW hT v hv
     clear ho hall hl hQ
     generalize InvQ _ _ _ w0 a0 (lq.setIfInBounds 5 true) = K at hK ⊢
     clear hJ2 hS z1 z2 z3 z4 z6 z7
     go_simp
     exact hK _ _ z5 (fun _ _ h => h) rfl
   | 6, ho =>
     cases ho
     refine wpOp_of rfl rfl ?_
     have f5 : (aq.tmps.getD 39 undef) = .int .i64 id := z6 5 39 (hall { on := 5, ground := Ground.data } (by simp) rfl) rfl
     have hK := fun (v : Value) (W2 : World) hW hT hv => hJ2.put hS 6 40 rfl (by omega) (W' := W2) hW hT v hv
     clear ho hall hl hQ
     generalize InvQ _ _ _ w0 a0 (lq.setIfInBounds 6 true) = K at hK ⊢
     clear hJ2 hS z1 z2 z3 z4 z6 z7
     go_simp
     refine (l1InQ_any id 1 1000 W).mono ?_
     rintro e v1 ⟨rfl, hBv⟩
     exact hK _ _ (z5.trans (hBv.mono z5.size)) (fun j v h => h.mono hBv) rfl
   | 7, ho =>
     cases ho
     refine wpOp_of rfl rfl ?_
     have f6 : (aq.tmps.getD 40 undef) = .bool (decide (1 ≤ id ∧ id ≤ 1000)) := z6 6 40 (hall { on := 6, ground := Ground.data } (by simp) rfl) rfl
     rw [hq1] at f6
     have hK := fun (v : Value) (W2 : World) hW hT hv => hJ2.put hS 7 41 rfl (by omega) (W' := W2) hW hT v hv
     clear ho hall hl hQ
     generalize InvQ _ _ _ w0 a0 (lq.setIfInBounds 7 true) = K at hK ⊢
     clear hJ2 hS z1 z2 z3 z4 z6 z7
     go_simp
     exact hK _ _ z5 (fun _ _ h => h) rfl
   | 8, ho =>
     cases ho
     refine wpOp_of rfl rfl ?_
     have f7 : (aq.tmps.getD 41 undef) = .bool false := z6 7 41 (hall { on := 7, ground := Ground.data } (by simp) rfl) rfl
     have hK := fun (v : Value) (W2 : World) hW hT hv => hJ2.put hS 8 42 rfl (by omega) (W' := W2) hW hT v hv
     clear ho hall hl hQ
     generalize InvQ _ _ _ w0 a0 (lq.setIfInBounds 8 true) = K at hK ⊢
     clear hJ2 hS z1 z2 z3 z4 z6 z7
     go_simp
     exact hK _ _ z5 (fun _ _ h => h) rfl
   | 9, ho =>
     cases ho
     have fg : aq.tmps.getD 42 undef = .bool false := z6 8 42 (hall { on := 8, ground := Ground.guard } (by simp) rfl) rfl
     refine wpOp_on rfl rfl rfl rfl fg ?_
     have hK := fun (v : Value) (W2 : World) hW hT hv => hJ2.put hS 9 43 rfl (by omega) (W' := W2) hW hT v hv
     clear ho hall hl hQ
     generalize InvQ _ _ _ w0 a0 (lq.setIfInBounds 9 true) = K at hK ⊢
     clear hJ2 hS z1 z2 z3 z4 z6 z7
     go_simp
     exact hK _ _ z5 (fun _ _ h => h) rfl
   | 10, ho =>
     cases ho
     have fg : aq.tmps.getD 42 undef = .bool false := z6 8 42 (hall { on := 8, ground := Ground.guard } (by simp) rfl) rfl
     refine wpOp_on rfl rfl rfl rfl fg ?_
     have f9 : (aq.tmps.getD 43 undef) = .pointer (some ⟨P, 2, none⟩) := z6 9 43 (hall { on := 9, ground := Ground.data } (by simp) rfl) rfl
     have hK := fun (v : Value) (W2 : World) hW hT hv => hJ2.put hS 10 44 rfl (by omega) (W' := W2) hW hT v hv
     clear ho hall hl hQ
     generalize InvQ _ _ _ w0 a0 (lq.setIfInBounds 10 true) = K at hK ⊢
     clear hJ2 hS z1 z2 z3 z4 z6 z7
     go_simp
     exact hK _ _ z5 (fun _ _ h => h) rfl
   | 11, ho =>
     cases ho
     have fg : aq.tmps.getD 42 undef = .bool false := z6 8 42 (hall { on := 8, ground := Ground.guard } (by simp) rfl) rfl
     refine wpOp_on rfl rfl rfl rfl fg ?_
     have hK := fun (v : Value) (W2 : World) hW hT hv => hJ2.put hS 11 45 rfl (by omega) (W' := W2) hW hT v hv
     clear ho hall hl hQ
     generalize InvQ _ _ _ w0 a0 (lq.setIfInBounds 11 true) = K at hK ⊢
     clear hJ2 hS z1 z2 z3 z4 z6 z7
     go_simp
     exact hK _ _ z5 (fun _ _ h => h) rfl
   | 12, ho =>
     cases ho
     have fg : aq.tmps.getD 42 undef = .bool false := z6 8 42 (hall { on := 8, ground := Ground.guard } (by simp) rfl) rfl
     refine wpOp_on rfl rfl rfl rfl fg ?_
     have f10 : (aq.tmps.getD 44 undef) = .slice (some ⟨A, off, none⟩) n cap := z6 10 44 (hall { on := 10, ground := Ground.data } (by simp) rfl) rfl
     have f11 : (aq.tmps.getD 45 undef) = .int .i64 (k_ : Int) := z6 11 45 (hall { on := 11, ground := Ground.data } (by simp) rfl) rfl
     have hkI0 : (k_ : Int) < n := by omega
     have hnI0 : (n : Int) ≤ 40 := by omega
     have hK := fun (v : Value) (W2 : World) hW hT hv => hJ2.put hS 12 46 rfl (by omega) (W' := W2) hW hT v hv
     clear ho hall hl hQ
     generalize InvQ _ _ _ w0 a0 (lq.setIfInBounds 12 true) = K at hK ⊢
     clear hJ2 hS z1 z2 z3 z4 z6 z7
     go_simp
     exact hK _ _ z5 (fun _ _ h => h) rfl
   | 13, ho =>
     cases ho
     have fg : aq.tmps.getD 42 undef = .bool false := z6 8 42 (hall { on := 8, ground := Ground.guard } (by simp) rfl) rfl
     refine wpOp_on rfl rfl rfl rfl fg ?_
     have f12 : (aq.tmps.getD 46 undef) = .pointer (some ⟨A, off + k_ * 5, none⟩) := z6 12 46 (hall { on := 12, ground := Ground.data } (by simp) rfl) rfl
     have hK := fun (v : Value) (W2 : World) hW hT hv => hJ2.put hS 13 47 rfl (by omega) (W' := W2) hW hT v hv
     clear ho hall hl hQ
     generalize InvQ _ _ _ w0 a0 (lq.setIfInBounds 13 true) = K at hK ⊢
     clear hJ2 hS z1 z2 z3 z4 z6 z7
     go_simp
     exact hK _ _ z5 (fun _ _ h => h) rfl
   | 14, ho =>
     cases ho
     have fg : aq.tmps.getD 42 undef = .bool false := z6 8 42 (hall { on := 8, ground := Ground.guard } (by simp) rfl) rfl
     refine wpOp_on rfl rfl rfl rfl fg ?_
     have f13 : (aq.tmps.getD 47 undef) = .pointer (some ⟨A, off + k_ * 5 + 1, none⟩) := z6 13 47 (hall { on := 13, ground := Ground.data } (by simp) rfl) rfl
     have hK := fun (v : Value) (W2 : World) hW hT hv => hJ2.put hS 14 48 rfl (by omega) (W' := W2) hW hT v hv
     clear ho hall hl hQ
     generalize InvQ _ _ _ w0 a0 (lq.setIfInBounds 14 true) = K at hK ⊢
     clear hJ2 hS z1 z2 z3 z4 z6 z7
     go_simp
     exact hK _ _ z5 (fun _ _ h => h) rfl
   | 15, ho =>
     cases ho
     have fg : aq.tmps.getD 42 undef = .bool false := z6 8 42 (hall { on := 8, ground := Ground.guard } (by simp) rfl) rfl
     refine wpOp_on rfl rfl rfl rfl fg ?_
     have f14 : (aq.tmps.getD 48 undef) = Sg a bb c d := z6 14 48 (hall { on := 14, ground := Ground.data } (by simp) rfl) rfl
     have hK := fun (v : Value) (W2 : World) hW hT hv => hJ2.put hS 15 49 rfl (by omega) (W' := W2) hW hT v hv
     clear ho hall hl hQ
     generalize InvQ _ _ _ w0 a0 (lq.setIfInBounds 15 true) = K at hK ⊢
     clear hJ2 hS z1 z2 z3 z4 z6 z7
     go_simp
     refine (specSegQ_any a bb c d W).mono ?_
     rintro e v1 ⟨rfl, hBv⟩
     exact hK _ _ (z5.trans (hBv.mono z5.size)) (fun j v h => h.mono hBv) rfl
   | 16, ho =>
     cases ho
     have fg : aq.tmps.getD 42 undef = .bool false := z6 8 42 (hall { on := 8, ground := Ground.guard } (by simp) rfl) rfl
     refine wpOp_on rfl rfl rfl rfl fg ?_
     have f15 : (aq.tmps.getD 49 undef) = .bool (segOk a bb c d) := z6 15 49 (hall { on := 15, ground := Ground.data } (by simp) rfl) rfl
     rw [hq2] at f15
     have hK := fun (v : Value) (W2 : World) hW hT hv => hJ2.put hS 16 50 rfl (by omega) (W' := W2) hW hT v hv
     clear ho hall hl hQ
     generalize InvQ _ _ _ w0 a0 (lq.setIfInBounds 16 true) = K at hK ⊢
     clear hJ2 hS z1 z2 z3 z4 z6 z7
     go_simp
     exact hK _ _ z5 (fun _ _ h => h) rfl
   | 17, ho =>
     cases ho
     refine wpOp_of rfl rfl ?_
     have f8 : (aq.tmps.getD 42 undef) = .bool false := z6 8 42 (hall { on := 8, ground := Ground.data } (by simp) rfl) rfl
     have f16 : (aq.tmps.getD 50 undef) = .bool true := z6 16 50 (hall { on := 16, ground := Ground.data } (by simp) rfl) rfl
     have hK := fun (v : Value) (W2 : World) hW hT hv => hJ2.put hS 17 51 rfl (by omega) (W' := W2) hW hT v hv
     clear ho hall hl hQ
     generalize InvQ _ _ _ w0 a0 (lq.setIfInBounds 17 true) = K at hK ⊢
     clear hJ2 hS z1 z2 z3 z4 z6 z7
     go_simp
     exact hK _ _ z5 (fun _ _ h => h) rfl
   | 18, ho =>
     cases ho
     refine wpOp_of rfl rfl ?_
     have f17 : (aq.tmps.getD 51 undef) = .bool true := z6 17 51 (hall { on := 17, ground := Ground.data } (by simp) rfl) rfl
     have hK := fun (v : Value) (W2 : World) hW hT hv => hJ2.put hS 18 52 rfl (by omega) (W' := W2) hW hT v hv
     clear ho hall hl hQ
     generalize InvQ _ _ _ w0 a0 (lq.setIfInBounds 18 true) = K at hK ⊢
     clear hJ2 hS z1 z2 z3 z4 z6 z7
     go_simp
     exact hK _ _ z5 (fun _ _ h => h) rfl
   | 19, ho =>
     cases ho
     have fg : aq.tmps.getD 52 undef = .bool true := z6 18 52 (hall { on := 18, ground := Ground.guard } (by simp) rfl) rfl
     refine wpOp_off rfl rfl rfl rfl fg ?_
     exact hJ2.put hS 19 53 rfl (by omega) z5 (fun _ _ h => h) undef rfl
   | 20, ho =>
     cases ho
     have fg : aq.tmps.getD 52 undef = .bool true := z6 18 52 (hall { on := 18, ground := Ground.guard } (by simp) rfl) rfl
     refine wpOp_off rfl rfl rfl rfl fg ?_
     exact hJ2.put hS 20 54 rfl (by omega) z5 (fun _ _ h => h) undef rfl
   | 21, ho =>
     cases ho
     have fg : aq.tmps.getD 52 undef = .bool true := z6 18 52 (hall { on := 18, ground := Ground.guard } (by simp) rfl) rfl
     refine wpOp_off rfl rfl rfl rfl fg ?_
     exact hJ2.put hS 21 55 rfl (by omega) z5 (fun _ _ h => h) undef rfl
   | 22, ho =>
     cases ho
     have fg : aq.tmps.getD 55 undef = undef := z6 21 55 (hall { on := 21, ground := Ground.guard } (by simp) rfl) rfl
     refine wpOp_offu rfl rfl rfl rfl fg ?_
     exact hJ2.put hS 22 56 rfl (by omega) z5 (fun _ _ h => h) undef rfl
   | 23, ho =>
     cases ho
     have fg : aq.tmps.getD 55 undef = undef := z6 21 55 (hall { on := 21, ground := Ground.guard } (by simp) rfl) rfl
     refine wpOp_offu rfl rfl rfl rfl fg ?_
     exact hJ2.put hS 23 57 rfl (by omega) z5 (fun _ _ h => h) undef rfl
   | 24, ho =>
     cases ho
     have fg : aq.tmps.getD 55 undef = undef := z6 21 55 (hall { on := 21, ground := Ground.guard } (by simp) rfl) rfl
     refine wpOp_offu rfl rfl rfl rfl fg ?_
     exact hJ2.put hS 24 58 rfl (by omega) z5 (fun _ _ h => h) undef rfl
   | 25, ho =>
     cases ho
     have fg : aq.tmps.getD 55 undef = undef := z6 21 55 (hall { on := 21, ground := Ground.guard } (by simp) rfl) rfl
     refine wpOp_offu rfl rfl rfl rfl fg ?_
     exact hJ2.put hS 25 59 rfl (by omega) z5 (fun _ _ h => h) undef rfl
   | 26, ho =>
     cases ho
     have fg : aq.tmps.getD 55 undef = undef := z6 21 55 (hall { on := 21, ground := Ground.guard } (by simp) rfl) rfl
     refine wpOp_offu rfl rfl rfl rfl fg ?_
     exact hJ2.put hS 26 60 rfl (by omega) z5 (fun _ _ h => h) undef rfl
   | 27, ho =>
     cases ho
     have fg : aq.tmps.getD 55 undef = undef := z6 21 55 (hall { on := 21, ground := Ground.guard } (by simp) rfl) rfl
     refine wpOp_offu rfl rfl rfl rfl fg ?_
     exact hJ2.put hS 27 61 rfl (by omega) z5 (fun _ _ h => h) undef rfl
   | 28, ho =>
     cases ho
     have fg : aq.tmps.getD 55 undef = undef := z6 21 55 (hall { on := 21, ground := Ground.guard } (by simp) rfl) rfl
     refine wpOp_offu rfl rfl rfl rfl fg ?_
     exact hJ2.put hS 28 62 rfl (by omega) z5 (fun _ _ h => h) undef rfl
   | 29, ho =>
     cases ho
     have fg : aq.tmps.getD 55 undef = undef := z6 21 55 (hall { on := 21, ground := Ground.guard } (by simp) rfl) rfl
     refine wpOp_offu rfl rfl rfl rfl fg ?_
     exact hJ2.put hS 29 63 rfl (by omega) z5 (fun _ _ h => h) undef rfl
   | 30, ho =>
     cases ho
     have fg : aq.tmps.getD 55 undef = undef := z6 21 55 (hall { on := 21, ground := Ground.guard } (by simp) rfl) rfl
     refine wpOp_offu rfl rfl rfl rfl fg ?_
     exact hJ2.put hS 30 64 rfl (by omega) z5 (fun _ _ h => h) undef rfl
   | 31, ho =>
     cases ho
     have fg : aq.tmps.getD 55 undef = undef := z6 21 55 (hall { on := 21, ground := Ground.guard } (by simp) rfl) rfl
     refine wpOp_offu rfl rfl rfl rfl fg ?_
     exact hJ2.put hS 31 65 rfl (by omega) z5 (fun _ _ h => h) undef rfl
   | 32, ho =>
     cases ho
     have fg : aq.tmps.getD 55 undef = undef := z6 21 55 (hall { on := 21, ground := Ground.guard } (by simp) rfl) rfl
     refine wpOp_offu rfl rfl rfl rfl fg ?_
     exact hJ2.put hS 32 66 rfl (by omega) z5 (fun _ _ h => h) undef rfl
   | 33, ho =>
     cases ho
     have fg : aq.tmps.getD 55 undef = undef := z6 21 55 (hall { on := 21, ground := Ground.guard } (by simp) rfl) rfl
     refine wpOp_offu rfl rfl rfl rfl fg ?_
     exact hJ2.put hS 33 67 rfl (by omega) z5 (fun _ _ h => h) undef rfl
   | 34, ho =>
     cases ho
     have fg : aq.tmps.getD 55 undef = undef := z6 21 55 (hall { on := 21, ground := Ground.guard } (by simp) rfl) rfl
     refine wpOp_offu rfl rfl rfl rfl fg ?_
     exact hJ2.put hS 34 68 rfl (by omega) z5 (fun _ _ h => h) undef rfl
   | 35, ho =>
     cases ho
     have fg : aq.tmps.getD 55 undef = undef := z6 21 55 (hall { on := 21, ground := Ground.guard } (by simp) rfl) rfl
     refine wpOp_offu rfl rfl rfl rfl fg ?_
     exact hJ2.put hS 35 69 rfl (by omega) z5 (fun _ _ h => h) undef rfl
   | 36, ho =>
     cases ho
     have fg : aq.tmps.getD 52 undef = .bool true := z6 18 52 (hall { on := 18, ground := Ground.guard } (by simp) rfl) rfl
     refine wpOp_off rfl rfl rfl rfl fg ?_
     exact hJ2.put hS 36 70 rfl (by omega) z5 (fun _ _ h => h) undef rfl
   | 37, ho =>
     cases ho
     refine wpOp_of rfl rfl ?_
     have f18 : (aq.tmps.getD 52 undef) = .bool true := z6 18 52 (hall { on := 18, ground := Ground.data } (by simp) rfl) rfl
     have f36 : (aq.tmps.getD 70 undef) = undef := z6 36 70 (hall { on := 36, ground := Ground.data } (by simp) rfl) rfl
     have hK := fun (v : Value) (W2 : World) hW hT hv => hJ2.put hS 37 71 rfl (by omega) (W' := W2) hW hT v hv
     clear ho hall hl hQ
     generalize InvQ _ _ _ w0 a0 (lq.setIfInBounds 37 true) = K at hK ⊢
     clear hJ2 hS z1 z2 z3 z4 z6 z7
     go_simp
     exact hK _ _ z5 (fun _ _ h => h) rfl
   | iq + 38, ho => simp at ho
 · intro lq aq W hJ hr
   obtain ⟨z1, z2, z3, z4, z5, z6, z7⟩ := hJ
   have hl := listed_of hr [0, 1, 2, 3, 4, 5, 6, 7, 8, 9, 10, 11, 12, 13, 14, 15, 16, 17, 18, 19, 20, 21, 22, 23, 24, 25, 26, 27, 28, 29, 30, 31, 32, 33, 34, 35, 36, 37] [] (by simp) (by kernel_rfl) (by rw [z1]; decide)
   exact hQ aq W z2 z3 (fun e he => z4 e (by simpa using he)) (z6 37 71 (hl 37 (by simp)) rfl) z5
def VrrC (P A off n cap k_ : Nat) (id a bb c d : Int) (_B : Nat) : Nat → Value → World → Prop
 | 0, v, _ => v = .pointer (some ⟨P, 2, none⟩)
 | 1, v, _ => v = .slice (some ⟨A, off, none⟩) n cap
 | 2, v, _ => v = .int .i64 (k_ : Int)
 | 3, v, _ => v = .pointer (some ⟨A, off + k_ * 5, none⟩)
 | 4, v, _ => v = .pointer (some ⟨A, off + k_ * 5, none⟩)
 | 5, v, _ => v = .int .i64 id
 | 6, v, _ => v = .bool (decide (1 ≤ id ∧ id ≤ 1000))
 | 7, v, _ => v = .bool false
 | 8, v, _ => v = .bool false
 | 9, v, _ => v = .pointer (some ⟨P, 2, none⟩)
 | 10, v, _ => v = .slice (some ⟨A, off, none⟩) n cap
 | 11, v, _ => v = .int .i64 (k_ : Int)
 | 12, v, _ => v = .pointer (some ⟨A, off + k_ * 5, none⟩)
 | 13, v, _ => v = .pointer (some ⟨A, off + k_ * 5 + 1, none⟩)
 | 14, v, _ => v = Sg a bb c d
 | 15, v, _ => v = .bool (segOk a bb c d)
 | 16, v, _ => v = .bool false
 | 17, v, _ => v = .bool false
 | 18, v, _ => v = .bool false
 | 19, v, _ => v = .int .i64 (k_ : Int)
 | 20, v, _ => v = .bool false
 | 21, v, _ => v = .bool false
 | 22, v, _ => v = undef
 | 23, v, _ => v = undef
 | 24, v, _ => v = undef
 | 25, v, _ => v = undef
 | 26, v, _ => v = undef
 | 27, v, _ => v = undef
 | 28, v, _ => v = undef
 | 29, v, _ => v = undef
 | 30, v, _ => v = undef
 | 31, v, _ => v = undef
 | 32, v, _ => v = undef
 | 33, v, _ => v = undef
 | 34, v, _ => v = undef
 | 35, v, _ => v = undef
 | 36, v, _ => v = .bool false
 | 37, v, _ => v = .bool false
 | _, _, _ => True
theorem VrrC.mono {P A off n cap k_ : Nat} {id a bb c d : Int} {B j : Nat} {v : Value} {W W2 : World} (_hB : Below W.heap.size W W2) (h : VrrC P A off n cap k_ id a bb c d B j v W) : VrrC P A off n cap k_ id a bb c d B j v W2 := by
 unfold VrrC at *
 split <;> simp only at h <;> first | exact h | trivial
set_option maxRecDepth 100000 in
set_option maxHeartbeats 4000000 in
theorem rrC {Q : Exit → Act → World → Prop} {P A off n cap k_ : Nat} {id a bb c d : Int}  {w0 : World} {a0 : Act} {idq : Nat} {t0 t1 t2 t3 t4 t5 t6 t7 t8 t9 t10 t11 t12 t13 t14 t15 t16 t17 t18 t19 t20 t21 t22 t23 t24 t25 t26 t27 t28 t29 t30 t31 t32 t33 t34 t35 t36 t37 : TypeId} {q0 q1 q2 q3 q4 q5 q6 q7 q8 q9 q10 q11 q12 q13 q14 q15 q16 q17 q18 q19 q20 q21 q22 q23 q24 q25 q26 q27 q28 q29 q30 q31 q32 q33 q34 q35 q36 q37 : String}
   (hq1 : decide (1 ≤ id ∧ id ≤ 1000) = true) (hkn : k_ < n) (hn : n ≤ 40) (hq2 : segOk a bb c d = true) (hk0 : Hid (k_ = 0)) (h1 : a0.tmps[1]? = some (.pointer (some ⟨P, 0, none⟩))) (h4 : a0.tmps[4]? = some (.int .i64 (k_ : Int))) (k0 : w0.cell? ⟨P, 2, none⟩ = some (.slice (some ⟨A, off, none⟩) n cap)) (l0 : (⟨P, 2, none⟩ : Addr).block < w0.heap.size) (k1 : w0.cell? ⟨A, off + k_ * 5, none⟩ = some (.int .i64 id)) (l1 : (⟨A, off + k_ * 5, none⟩ : Addr).block < w0.heap.size) (k2 : w0.cell? ⟨A, off + k_ * 5 + 1, none⟩ = some (.int .i64 a)) (l2 : (⟨A, off + k_ * 5 + 1, none⟩ : Addr).block < w0.heap.size) (k3 : w0.cell? ⟨A, off + k_ * 5 + 1 + 1, none⟩ = some (.int .i64 bb)) (l3 : (⟨A, off + k_ * 5 + 1 + 1, none⟩ : Addr).block < w0.heap.size) (k4 : w0.cell? ⟨A, off + k_ * 5 + 1 + 2, none⟩ = some (.int .i64 c)) (l4 : (⟨A, off + k_ * 5 + 1 + 2, none⟩ : Addr).block < w0.heap.size) (k5 : w0.cell? ⟨A, off + k_ * 5 + 1 + 3, none⟩ = some (.int .i64 d)) (l5 : (⟨A, off + k_ * 5 + 1 + 3, none⟩ : Addr).block < w0.heap.size) (hz : a0.tmps.size = 100)
   (hQ : ∀ aq W, aq.tmps.size = a0.tmps.size → aq.defers = a0.defers → (∀ e, e ∉ ([34, 35, 36, 37, 38, 39, 40, 41, 42, 43, 44, 45, 46, 47, 48, 49, 50, 51, 52, 53, 54, 55, 56, 57, 58, 59, 60, 61, 62, 63, 64, 65, 66, 67, 68, 69, 70, 71] : List Nat) → aq.tmps[e]? = a0.tmps[e]?) → VrrC P A off n cap k_ id a bb c d w0.heap.size 37 (aq.tmps.getD 71 undef) W → Below w0.heap.size w0 W → Q .normal aq W) :
   (Code.region idq #[{ dst := some 34, op := Op.fieldAddr 35 (Operand.tmp 1) 2, type := t0, pos := q0, after := #[], guard := none },
   { dst := some 35, op := Op.load 32 (Operand.tmp 34), type := t1, pos := q1, after := #[{ on := 0, ground := Ground.data }], guard := none },
   { dst := some 36, op := Op.move (Operand.tmp 4), type := t2, pos := q2, after := #[], guard := none },
   { dst := some 37, op := Op.indexAddr 32 (Operand.tmp 35) (Operand.tmp 36), type := t3, pos := q3, after := #[{ on := 1, ground := Ground.data }, { on := 2, ground := Ground.data }], guard := none },
   { dst := some 38, op := Op.fieldAddr 56 (Operand.tmp 37) 0, type := t4, pos := q4, after := #[{ on := 3, ground := Ground.data }], guard := none },
   { dst := some 39, op := Op.load 2 (Operand.tmp 38), type := t5, pos := q5, after := #[{ on := 4, ground := Ground.data }], guard := none },
   { dst := some 40, op := Op.call { callee := Callee.value (Operand.func 32), args := #[Operand.tmp 39, Operand.const (Value.int IntKind.i64 1), Operand.const (Value.int IntKind.i64 1000)], argTypes := #[2, 2, 2] }, type := t6, pos := q6, after := #[{ on := 5, ground := Ground.data }], guard := none },
   { dst := some 41, op := Op.unOp UnOp.not 4 (Operand.tmp 40), type := t7, pos := q7, after := #[{ on := 6, ground := Ground.data }], guard := none },
   { dst := some 42, op := Op.move (Operand.tmp 41), type := t8, pos := q8, after := #[{ on := 7, ground := Ground.data }, { on := 6, ground := Ground.chain }], guard := none },
   { dst := some 43, op := Op.fieldAddr 35 (Operand.tmp 1) 2, type := t9, pos := q9, after := #[{ on := 8, ground := Ground.guard }], guard := some (8, false) },
   { dst := some 44, op := Op.load 32 (Operand.tmp 43), type := t10, pos := q10, after := #[{ on := 9, ground := Ground.data }, { on := 8, ground := Ground.guard }], guard := some (8, false) },
   { dst := some 45, op := Op.move (Operand.tmp 4), type := t11, pos := q11, after := #[{ on := 8, ground := Ground.guard }], guard := some (8, false) },
   { dst := some 46, op := Op.indexAddr 32 (Operand.tmp 44) (Operand.tmp 45), type := t12, pos := q12, after := #[{ on := 10, ground := Ground.data }, { on := 11, ground := Ground.data }, { on := 8, ground := Ground.guard }], guard := some (8, false) },
   { dst := some 47, op := Op.fieldAddr 56 (Operand.tmp 46) 1, type := t13, pos := q13, after := #[{ on := 12, ground := Ground.data }, { on := 8, ground := Ground.guard }], guard := some (8, false) },
   { dst := some 48, op := Op.load 54 (Operand.tmp 47), type := t14, pos := q14, after := #[{ on := 13, ground := Ground.data }, { on := 8, ground := Ground.guard }], guard := some (8, false) },
   { dst := some 49, op := Op.call { callee := Callee.value (Operand.func 33), args := #[Operand.tmp 48], argTypes := #[54] }, type := t15, pos := q15, after := #[{ on := 14, ground := Ground.data }, { on := 8, ground := Ground.chain }, { on := 8, ground := Ground.guard }], guard := some (8, false) },
   { dst := some 50, op := Op.unOp UnOp.not 4 (Operand.tmp 49), type := t16, pos := q16, after := #[{ on := 15, ground := Ground.data }, { on := 8, ground := Ground.guard }], guard := some (8, false) },
   { dst := some 51, op := Op.pick (Operand.tmp 42) (Operand.const (Value.bool true)) (Operand.tmp 50), type := t17, pos := q17, after := #[{ on := 8, ground := Ground.data }, { on := 16, ground := Ground.data }], guard := none },
   { dst := some 52, op := Op.move (Operand.tmp 51), type := t18, pos := q18, after := #[{ on := 17, ground := Ground.data }, { on := 15, ground := Ground.chain }], guard := none },
   { dst := some 53, op := Op.move (Operand.tmp 4), type := t19, pos := q19, after := #[{ on := 18, ground := Ground.guard }], guard := some (18, false) },
   { dst := some 54, op := Op.binOp BinOp.gtr 3 (Operand.tmp 53) (Operand.const (Value.int IntKind.i64 0)) 3, type := t20, pos := q20, after := #[{ on := 19, ground := Ground.data }, { on := 18, ground := Ground.guard }], guard := some (18, false) },
   { dst := some 55, op := Op.move (Operand.tmp 54), type := t21, pos := q21, after := #[{ on := 20, ground := Ground.data }, { on := 18, ground := Ground.chain }, { on := 18, ground := Ground.guard }], guard := some (18, false) },
   { dst := some 56, op := Op.fieldAddr 35 (Operand.tmp 1) 2, type := t22, pos := q22, after := #[{ on := 21, ground := Ground.guard }], guard := some (21, true) },
   { dst := some 57, op := Op.load 32 (Operand.tmp 56), type := t23, pos := q23, after := #[{ on := 22, ground := Ground.data }, { on := 21, ground := Ground.guard }], guard := some (21, true) },
   { dst := some 58, op := Op.move (Operand.tmp 4), type := t24, pos := q24, after := #[{ on := 21, ground := Ground.guard }], guard := some (21, true) },
   { dst := some 59, op := Op.binOp BinOp.sub 3 (Operand.tmp 58) (Operand.const (Value.int IntKind.i64 1)) 3, type := t25, pos := q25, after := #[{ on := 24, ground := Ground.data }, { on := 21, ground := Ground.guard }], guard := some (21, true) },
   { dst := some 60, op := Op.indexAddr 32 (Operand.tmp 57) (Operand.tmp 59), type := t26, pos := q26, after := #[{ on := 23, ground := Ground.data }, { on := 25, ground := Ground.data }, { on := 21, ground := Ground.guard }], guard := some (21, true) },
   { dst := some 61, op := Op.fieldAddr 56 (Operand.tmp 60) 0, type := t27, pos := q27, after := #[{ on := 26, ground := Ground.data }, { on := 21, ground := Ground.guard }], guard := some (21, true) },
   { dst := some 62, op := Op.load 2 (Operand.tmp 61), type := t28, pos := q28, after := #[{ on := 27, ground := Ground.data }, { on := 21, ground := Ground.guard }], guard := some (21, true) },
   { dst := some 63, op := Op.fieldAddr 35 (Operand.tmp 1) 2, type := t29, pos := q29, after := #[{ on := 21, ground := Ground.guard }], guard := some (21, true) },
   { dst := some 64, op := Op.load 32 (Operand.tmp 63), type := t30, pos := q30, after := #[{ on := 29, ground := Ground.data }, { on := 21, ground := Ground.guard }], guard := some (21, true) },
   { dst := some 65, op := Op.move (Operand.tmp 4), type := t31, pos := q31, after := #[{ on := 21, ground := Ground.guard }], guard := some (21, true) },
   { dst := some 66, op := Op.indexAddr 32 (Operand.tmp 64) (Operand.tmp 65), type := t32, pos := q32, after := #[{ on := 30, ground := Ground.data }, { on := 31, ground := Ground.data }, { on := 21, ground := Ground.guard }], guard := some (21, true) },
   { dst := some 67, op := Op.fieldAddr 56 (Operand.tmp 66) 0, type := t33, pos := q33, after := #[{ on := 32, ground := Ground.data }, { on := 21, ground := Ground.guard }], guard := some (21, true) },
   { dst := some 68, op := Op.load 2 (Operand.tmp 67), type := t34, pos := q34, after := #[{ on := 33, ground := Ground.data }, { on := 21, ground := Ground.guard }], guard := some (21, true) },
   { dst := some 69, op := Op.binOp BinOp.geq 2 (Operand.tmp 62) (Operand.tmp 68) 2, type := t35, pos := q35, after := #[{ on := 28, ground := Ground.data }, { on := 34, ground := Ground.data }, { on := 21, ground := Ground.guard }], guard := some (21, true) },
   { dst := some 70, op := Op.pick (Operand.tmp 55) (Operand.tmp 69) (Operand.const (Value.bool false)), type := t36, pos := q36, after := #[{ on := 21, ground := Ground.data }, { on := 35, ground := Ground.data }, { on := 18, ground := Ground.guard }], guard := some (18, false) },
   { dst := some 71, op := Op.pick (Operand.tmp 52) (Operand.const (Value.bool true)) (Operand.tmp 70), type := t37, pos := q37, after := #[{ on := 18, ground := Ground.data }, { on := 36, ground := Ground.data }], guard := none }] true).wp Try.prog Q a0 w0 := by
 have hS : distS [some 34, some 35, some 36, some 37, some 38, some 39, some 40, some 41, some 42, some 43, some 44, some 45, some 46, some 47, some 48, some 49, some 50, some 51, some 52, some 53, some 54, some 55, some 56, some 57, some 58, some 59, some 60, some 61, some 62, some 63, some 64, some 65, some 66, some 67, some 68, some 69, some 70, some 71] = true := rfl
 refine wp_region_q (by kernel_rfl) w0.heap.size [some 34, some 35, some 36, some 37, some 38, some 39, some 40, some 41, some 42, some 43, some 44, some 45, some 46, some 47, some 48, some 49, some 50, some 51, some 52, some 53, some 54, some 55, some 56, some 57, some 58, some 59, some 60, some 61, some 62, some 63, some 64, some 65, some 66, some 67, some 68, some 69, some 70, some 71] (VrrC P A off n cap k_ id a bb c d w0.heap.size) rfl ?_ ?_
 · intro Q lq aq W iq oq hJ hl ho hall
   have hJ2 := hJ
   obtain ⟨z1, z2, z3, z4, z5, z6, z7⟩ := hJ
   have g1 : aq.tmps.getD 1 undef = .pointer (some ⟨P, 0, none⟩) := by rw [Array.getD_eq_getD_getElem?, z4 1 (by decide), h1]; rfl
   have g4 : aq.tmps.getD 4 undef = .int .i64 (k_ : Int) := by rw [Array.getD_eq_getD_getElem?, z4 4 (by decide), h4]; rfl
   have c0 : W.cell? ⟨P, 2, none⟩ = some (.slice (some ⟨A, off, none⟩) n cap) := (z5.cell l0).trans k0
   have c1 : W.cell? ⟨A, off + k_ * 5, none⟩ = some (.int .i64 id) := (z5.cell l1).trans k1
   have c2 : W.cell? ⟨A, off + k_ * 5 + 1, none⟩ = some (.int .i64 a) := (z5.cell l2).trans k2
   have c3 : W.cell? ⟨A, off + k_ * 5 + 1 + 1, none⟩ = some (.int .i64 bb) := (z5.cell l3).trans k3
   have c4 : W.cell? ⟨A, off + k_ * 5 + 1 + 2, none⟩ = some (.int .i64 c) := (z5.cell l4).trans k4
   have c5 : W.cell? ⟨A, off + k_ * 5 + 1 + 3, none⟩ = some (.int .i64 d) := (z5.cell l5).trans k5
   match iq, ho with
   | 0, ho =>
     cases ho
     refine wpOp_of rfl rfl ?_
     have hK := fun (v : Value) (W2 : World) hW hT hv => hJ2.put hS 0 34 rfl (by omega) (W' := W2) hW hT v hv
     clear ho hall hl hQ
     generalize InvQ _ _ _ w0 a0 (lq.setIfInBounds 0 true) = K at hK ⊢
     clear hJ2 hS z1 z2 z3 z4 z6 z7
     go_simp
     exact hK _ _ z5 (fun _ _ h => h) rfl
   | 1, ho =>
     cases ho
     refine wpOp_of rfl rfl ?_
     have f0 : (aq.tmps.getD 34 undef) = .pointer (some ⟨P, 2, none⟩) := z6 0 34 (hall { on := 0, ground := Ground.data } (by simp) rfl) rfl
     have hK := fun (v : Value) (W2 : World) hW hT hv => hJ2.put hS 1 35 rfl (by omega) (W' := W2) hW hT v hv
     clear ho hall hl hQ
     generalize InvQ _ _ _ w0 a0 (lq.setIfInBounds 1 true) = K at hK ⊢
     clear hJ2 hS z1 z2 z3 z4 z6 z7
     go_simp
     exact hK _ _ z5 (fun _ _ h => h) rfl
   | 2, ho =>
     cases ho
     refine wpOp_of rfl rfl ?_
     have hK := fun (v : Value) (W2 : World) hW hT hv => hJ2.put hS 2 36 rfl (by omega) (W' := W2) hW hT v hv
     clear ho hall hl hQ
     generalize InvQ _ _ _ w0 a0 (lq.setIfInBounds 2 true) = K at hK ⊢
     clear hJ2 hS z1 z2 z3 z4 z6 z7
     go_simp
     exact hK _ _ z5 (fun _ _ h => h) rfl
   | 3, ho =>
     cases ho
     refine wpOp_of rfl rfl ?_
     have f1 : (aq.tmps.getD 35 undef) = .slice (some ⟨A, off, none⟩) n cap := z6 1 35 (hall { on := 1, ground := Ground.data } (by simp) rfl) rfl
     have f2 : (aq.tmps.getD 36 undef) = .int .i64 (k_ : Int) := z6 2 36 (hall { on := 2, ground := Ground.data } (by simp) rfl) rfl
     have hkI0 : (k_ : Int) < n := by omega
     have hnI0 : (n : Int) ≤ 40 := by omega
     have hK := fun (v : Value) (W2 : World) hW hT hv => hJ2.put hS 3 37 rfl (by omega) (W' := W2) hW hT v hv
     clear ho hall hl hQ
     generalize InvQ _ _ _ w0 a0 (lq.setIfInBounds 3 true) = K at hK ⊢
     clear hJ2 hS z1 z2 z3 z4 z6 z7
     go_simp
     exact hK _ _ z5 (fun _ _ h => h) rfl
   | 4, ho =>
     cases ho
     refine wpOp_of rfl rfl ?_
     have f3 : (aq.tmps.getD 37 undef) = .pointer (some ⟨A, off + k_ * 5, none⟩) := z6 3 37 (hall { on := 3, ground := Ground.data } (by simp) rfl) rfl
     have hK := fun (v : Value) (W2 : World) hW hT hv => hJ2.put hS 4 38 rfl (by omega) (W' := W2) hW hT v hv
     clear ho hall hl hQ
     generalize InvQ _ _ _ w0 a0 (lq.setIfInBounds 4 true) = K at hK ⊢
     clear hJ2 hS z1 z2 z3 z4 z6 z7
     go_simp
     exact hK _ _ z5 (fun _ _ h => h) rfl
   | 5, ho =>
     cases ho
     refine wpOp_of rfl rfl ?_
     have f4 : (aq.tmps.getD 38 undef) = .pointer (some ⟨A, off + k_ * 5, none⟩) := z6 4 38 (hall { on := 4, ground := Ground.data } (by simp) rfl) rfl
     have hK := fun (v : Value) (W2 : World) hW hT hv => hJ2.put hS 5 39 rfl (by omega) (W' := W2) hW hT v hv
     clear ho hall hl hQ
     generalize InvQ _ _ _ w0 a0 (lq.setIfInBounds 5 true) = K at hK ⊢
     clear hJ2 hS z1 z2 z3 z4 z6 z7
     go_simp
     exact hK _ _ z5 (fun _ _ h => h) rfl
   | 6, ho =>
     cases ho
     refine wpOp_of rfl rfl ?_
     have f5 : (aq.tmps.getD 39 undef) = .int .i64 id := z6 5 39 (hall { on := 5, ground := Ground.data } (by simp) rfl) rfl
     have hK := fun (v : Value) (W2 : World) hW hT hv => hJ2.put hS 6 40 rfl (by omega) (W' := W2) hW hT v hv
     clear ho hall hl hQ
     generalize InvQ _ _ _ w0 a0 (lq.setIfInBounds 6 true) = K at hK ⊢
     clear hJ2 hS z1 z2 z3 z4 z6 z7
     go_simp
     refine (l1InQ_any id 1 1000 W).mono ?_
     rintro e v1 ⟨rfl, hBv⟩
     exact hK _ _ (z5.trans (hBv.mono z5.size)) (fun j v h => h.mono hBv) rfl
   | 7, ho =>
     cases ho
     refine wpOp_of rfl rfl ?_
     have f6 : (aq.tmps.getD 40 undef) = .bool (decide (1 ≤ id ∧ id ≤ 1000)) := z6 6 40 (hall { on := 6, ground := Ground.data } (by simp) rfl) rfl
     rw [hq1] at f6
     have hK := fun (v : Value) (W2 : World) hW hT hv => hJ2.put hS 7 41 rfl (by omega) (W' := W2) hW hT v hv
     clear ho hall hl hQ
     generalize InvQ _ _ _ w0 a0 (lq.setIfInBounds 7 true) = K at hK ⊢
     clear hJ2 hS z1 z2 z3 z4 z6 z7
     go_simp
     exact hK _ _ z5 (fun _ _ h => h) rfl
   | 8, ho =>
     cases ho
     refine wpOp_of rfl rfl ?_
     have f7 : (aq.tmps.getD 41 undef) = .bool false := z6 7 41 (hall { on := 7, ground := Ground.data } (by simp) rfl) rfl
     have hK := fun (v : Value) (W2 : World) hW hT hv => hJ2.put hS 8 42 rfl (by omega) (W' := W2) hW hT v hv
     clear ho hall hl hQ
     generalize InvQ _ _ _ w0 a0 (lq.setIfInBounds 8 true) = K at hK ⊢
     clear hJ2 hS z1 z2 z3 z4 z6 z7
     go_simp
     exact hK _ _ z5 (fun _ _ h => h) rfl
   | 9, ho =>
     cases ho
     have fg : aq.tmps.getD 42 undef = .bool false := z6 8 42 (hall { on := 8, ground := Ground.guard } (by simp) rfl) rfl
     refine wpOp_on rfl rfl rfl rfl fg ?_
     have hK := fun (v : Value) (W2 : World) hW hT hv => hJ2.put hS 9 43 rfl (by omega) (W' := W2) hW hT v hv
     clear ho hall hl hQ
     generalize InvQ _ _ _ w0 a0 (lq.setIfInBounds 9 true) = K at hK ⊢
     clear hJ2 hS z1 z2 z3 z4 z6 z7
     go_simp
     exact hK _ _ z5 (fun _ _ h => h) rfl
   | 10, ho =>
     cases ho
     have fg : aq.tmps.getD 42 undef = .bool false := z6 8 42 (hall { on := 8, ground := Ground.guard } (by simp) rfl) rfl
     refine wpOp_on rfl rfl rfl rfl fg ?_
     have f9 : (aq.tmps.getD 43 undef) = .pointer (some ⟨P, 2, none⟩) := z6 9 43 (hall { on := 9, ground := Ground.data } (by simp) rfl) rfl
     have hK := fun (v : Value) (W2 : World) hW hT hv => hJ2.put hS 10 44 rfl (by omega) (W' := W2) hW hT v hv
     clear ho hall hl hQ
     generalize InvQ _ _ _ w0 a0 (lq.setIfInBounds 10 true) = K at hK ⊢
     clear hJ2 hS z1 z2 z3 z4 z6 z7
     go_simp
     exact hK _ _ z5 (fun _ _ h => h) rfl
   | 11, ho =>
     cases ho
     have fg : aq.tmps.getD 42 undef = .bool false := z6 8 42 (hall { on := 8, ground := Ground.guard } (by simp) rfl) rfl
     refine wpOp_on rfl rfl rfl rfl fg ?_
     have hK := fun (v : Value) (W2 : World) hW hT hv => hJ2.put hS 11 45 rfl (by omega) (W' := W2) hW hT v hv
     clear ho hall hl hQ
     generalize InvQ _ _ _ w0 a0 (lq.setIfInBounds 11 true) = K at hK ⊢
     clear hJ2 hS z1 z2 z3 z4 z6 z7
     go_simp
     exact hK _ _ z5 (fun _ _ h => h) rfl
   | 12, ho =>
     cases ho
     have fg : aq.tmps.getD 42 undef = .bool false := z6 8 42 (hall { on := 8, ground := Ground.guard } (by simp) rfl) rfl
     refine wpOp_on rfl rfl rfl rfl fg ?_
     have f10 : (aq.tmps.getD 44 undef) = .slice (some ⟨A, off, none⟩) n cap := z6 10 44 (hall { on := 10, ground := Ground.data } (by simp) rfl) rfl
     have f11 : (aq.tmps.getD 45 undef) = .int .i64 (k_ : Int) := z6 11 45 (hall { on := 11, ground := Ground.data } (by simp) rfl) rfl
     have hkI0 : (k_ : Int) < n := by omega
     have hnI0 : (n : Int) ≤ 40 := by omega
     have hK := fun (v : Value) (W2 : World) hW hT hv => hJ2.put hS 12 46 rfl (by omega) (W' := W2) hW hT v hv
     clear ho hall hl hQ
     generalize InvQ _ _ _ w0 a0 (lq.setIfInBounds 12 true) = K at hK ⊢
     clear hJ2 hS z1 z2 z3 z4 z6 z7
     go_simp
     exact hK _ _ z5 (fun _ _ h => h) rfl
   | 13, ho =>
     cases ho
     have fg : aq.tmps.getD 42 undef = .bool false := z6 8 42 (hall { on := 8, ground := Ground.guard } (by simp) rfl) rfl
     refine wpOp_on rfl rfl rfl rfl fg ?_
     have f12 : (aq.tmps.getD 46 undef) = .pointer (some ⟨A, off + k_ * 5, none⟩) := z6 12 46 (hall { on := 12, ground := Ground.data } (by simp) rfl) rfl
     have hK := fun (v : Value) (W2 : World) hW hT hv => hJ2.put hS 13 47 rfl (by omega) (W' := W2) hW hT v hv
     clear ho hall hl hQ
     generalize InvQ _ _ _ w0 a0 (lq.setIfInBounds 13 true) = K at hK ⊢
     clear hJ2 hS z1 z2 z3 z4 z6 z7
     go_simp
     exact hK _ _ z5 (fun _ _ h => h) rfl
   | 14, ho =>
     cases ho
     have fg : aq.tmps.getD 42 undef = .bool false := z6 8 42 (hall { on := 8, ground := Ground.guard } (by simp) rfl) rfl
     refine wpOp_on rfl rfl rfl rfl fg ?_
     have f13 : (aq.tmps.getD 47 undef) = .pointer (some ⟨A, off + k_ * 5 + 1, none⟩) := z6 13 47 (hall { on := 13, ground := Ground.data } (by simp) rfl) rfl
     have hK := fun (v : Value) (W2 : World) hW hT hv => hJ2.put hS 14 48 rfl (by omega) (W' := W2) hW hT v hv
     clear ho hall hl hQ
     generalize InvQ _ _ _ w0 a0 (lq.setIfInBounds 14 true) = K at hK ⊢
     clear hJ2 hS z1 z2 z3 z4 z6 z7
     go_simp
     exact hK _ _ z5 (fun _ _ h => h) rfl
   | 15, ho =>
     cases ho
     have fg : aq.tmps.getD 42 undef = .bool false := z6 8 42 (hall { on := 8, ground := Ground.guard } (by simp) rfl) rfl
     refine wpOp_on rfl rfl rfl rfl fg ?_
     have f14 : (aq.tmps.getD 48 undef) = Sg a bb c d := z6 14 48 (hall { on := 14, ground := Ground.data } (by simp) rfl) rfl
     have hK := fun (v : Value) (W2 : World) hW hT hv => hJ2.put hS 15 49 rfl (by omega) (W' := W2) hW hT v hv
     clear ho hall hl hQ
     generalize InvQ _ _ _ w0 a0 (lq.setIfInBounds 15 true) = K at hK ⊢
     clear hJ2 hS z1 z2 z3 z4 z6 z7
     go_simp
     refine (specSegQ_any a bb c d W).mono ?_
     rintro e v1 ⟨rfl, hBv⟩
     exact hK _ _ (z5.trans (hBv.mono z5.size)) (fun j v h => h.mono hBv) rfl
   | 16, ho =>
     cases ho
     have fg : aq.tmps.getD 42 undef = .bool false := z6 8 42 (hall { on := 8, ground := Ground.guard } (by simp) rfl) rfl
     refine wpOp_on rfl rfl rfl rfl fg ?_
     have f15 : (aq.tmps.getD 49 undef) = .bool (segOk a bb c d) := z6 15 49 (hall { on := 15, ground := Ground.data } (by simp) rfl) rfl
     rw [hq2] at f15
     have hK := fun (v : Value) (W2 : World) hW hT hv => hJ2.put hS 16 50 rfl (by omega) (W' := W2) hW hT v hv
     clear ho hall hl hQ
     generalize InvQ _ _ _ w0 a0 (lq.setIfInBounds 16 true) = K at hK ⊢
     clear hJ2 hS z1 z2 z3 z4 z6 z7
     go_simp
     exact hK _ _ z5 (fun _ _ h => h) rfl
   | 17, ho =>
     cases ho
     refine wpOp_of rfl rfl ?_
     have f8 : (aq.tmps.getD 42 undef) = .bool false := z6 8 42 (hall { on := 8, ground := Ground.data } (by simp) rfl) rfl
     have f16 : (aq.tmps.getD 50 undef) = .bool false := z6 16 50 (hall { on := 16, ground := Ground.data } (by simp) rfl) rfl
     have hK := fun (v : Value) (W2 : World) hW hT hv => hJ2.put hS 17 51 rfl (by omega) (W' := W2) hW hT v hv
     clear ho hall hl hQ
     generalize InvQ _ _ _ w0 a0 (lq.setIfInBounds 17 true) = K at hK ⊢
     clear hJ2 hS z1 z2 z3 z4 z6 z7
     go_simp
     exact hK _ _ z5 (fun _ _ h => h) rfl
   | 18, ho =>
     cases ho
     refine wpOp_of rfl rfl ?_
     have f17 : (aq.tmps.getD 51 undef) = .bool false := z6 17 51 (hall { on := 17, ground := Ground.data } (by simp) rfl) rfl
     have hK := fun (v : Value) (W2 : World) hW hT hv => hJ2.put hS 18 52 rfl (by omega) (W' := W2) hW hT v hv
     clear ho hall hl hQ
     generalize InvQ _ _ _ w0 a0 (lq.setIfInBounds 18 true) = K at hK ⊢
     clear hJ2 hS z1 z2 z3 z4 z6 z7
     go_simp
     exact hK _ _ z5 (fun _ _ h => h) rfl
   | 19, ho =>
     cases ho
     have fg : aq.tmps.getD 52 undef = .bool false := z6 18 52 (hall { on := 18, ground := Ground.guard } (by simp) rfl) rfl
     refine wpOp_on rfl rfl rfl rfl fg ?_
     have hK := fun (v : Value) (W2 : World) hW hT hv => hJ2.put hS 19 53 rfl (by omega) (W' := W2) hW hT v hv
     clear ho hall hl hQ
     generalize InvQ _ _ _ w0 a0 (lq.setIfInBounds 19 true) = K at hK ⊢
     clear hJ2 hS z1 z2 z3 z4 z6 z7
     go_simp
     exact hK _ _ z5 (fun _ _ h => h) rfl
   | 20, ho =>
     cases ho
     have fg : aq.tmps.getD 52 undef = .bool false := z6 18 52 (hall { on := 18, ground := Ground.guard } (by simp) rfl) rfl
     refine wpOp_on rfl rfl rfl rfl fg ?_
     have f19 : (aq.tmps.getD 53 undef) = .int .i64 (k_ : Int) := z6 19 53 (hall { on := 19, ground := Ground.data } (by simp) rfl) rfl
     have hgt : (k_ : Int) ≤ 0 := by have ho := hk0.out; omega
     have hK := fun (v : Value) (W2 : World) hW hT hv => hJ2.put hS 20 54 rfl (by omega) (W' := W2) hW hT v hv
     clear ho hall hl hQ
     generalize InvQ _ _ _ w0 a0 (lq.setIfInBounds 20 true) = K at hK ⊢
     clear hJ2 hS z1 z2 z3 z4 z6 z7
     go_simp
     exact hK _ _ z5 (fun _ _ h => h) (by show _ = _; exact congrArg Value.bool (decide_eq_false (by omega)))
   | 21, ho =>
     cases ho
     have fg : aq.tmps.getD 52 undef = .bool false := z6 18 52 (hall { on := 18, ground := Ground.guard } (by simp) rfl) rfl
     refine wpOp_on rfl rfl rfl rfl fg ?_
     have f20 : (aq.tmps.getD 54 undef) = .bool false := z6 20 54 (hall { on := 20, ground := Ground.data } (by simp) rfl) rfl
     have hK := fun (v : Value) (W2 : World) hW hT hv => hJ2.put hS 21 55 rfl (by omega) (W' := W2) hW hT v hv
     clear ho hall hl hQ
     generalize InvQ _ _ _ w0 a0 (lq.setIfInBounds 21 true) = K at hK ⊢
     clear hJ2 hS z1 z2 z3 z4 z6 z7
     go_simp
     exact hK _ _ z5 (fun _ _ h => h) rfl
   | 22, ho =>
     cases ho
     have fg : aq.tmps.getD 55 undef = .bool false := z6 21 55 (hall { on := 21, ground := Ground.guard } (by simp) rfl) rfl
     refine wpOp_off rfl rfl rfl rfl fg ?_
     exact hJ2.put hS 22 56 rfl (by omega) z5 (fun _ _ h => h) undef rfl
   | 23, ho =>
     cases ho
     have fg : aq.tmps.getD 55 undef = .bool false := z6 21 55 (hall { on := 21, ground := Ground.guard } (by simp) rfl) rfl
     refine wpOp_off rfl rfl rfl rfl fg ?_
     exact hJ2.put hS 23 57 rfl (by omega) z5 (fun _ _ h => h) undef rfl
   | 24, ho =>
     cases ho
     have fg : aq.tmps.getD 55 undef = .bool false := z6 21 55 (hall { on := 21, ground := Ground.guard } (by simp) rfl) rfl
     refine wpOp_off rfl rfl rfl rfl fg ?_
     exact hJ2.put hS 24 58 rfl (by omega) z5 (fun _ _ h => h) undef rfl
   | 25, ho =>
     cases ho
     have fg : aq.tmps.getD 55 undef = .bool false := z6 21 55 (hall { on := 21, ground := Ground.guard } (by simp) rfl) rfl
     refine wpOp_off rfl rfl rfl rfl fg ?_
     exact hJ2.put hS 25 59 rfl (by omega) z5 (fun _ _ h => h) undef rfl
   | 26, ho =>
     cases ho
     have fg : aq.tmps.getD 55 undef = .bool false := z6 21 55 (hall { on := 21, ground := Ground.guard } (by simp) rfl) rfl
     refine wpOp_off rfl rfl rfl rfl fg ?_
     exact hJ2.put hS 26 60 rfl (by omega) z5 (fun _ _ h => h) undef rfl
   | 27, ho =>
     cases ho
     have fg : aq.tmps.getD 55 undef = .bool false := z6 21 55 (hall { on := 21, ground := Ground.guard } (by simp) rfl) rfl
     refine wpOp_off rfl rfl rfl rfl fg ?_
     exact hJ2.put hS 27 61 rfl (by omega) z5 (fun _ _ h => h) undef rfl
   | 28, ho =>
     cases ho
     have fg : aq.tmps.getD 55 undef = .bool false := z6 21 55 (hall { on := 21, ground := Ground.guard } (by simp) rfl) rfl
     refine wpOp_off rfl rfl rfl rfl fg ?_
     exact hJ2.put hS 28 62 rfl (by omega) z5 (fun _ _ h => h) undef rfl
   | 29, ho =>
     cases ho
     have fg : aq.tmps.getD 55 undef = .bool false := z6 21 55 (hall { on := 21, ground := Ground.guard } (by simp) rfl) rfl
     refine wpOp_off rfl rfl rfl rfl fg ?_
     exact hJ2.put hS 29 63 rfl (by omega) z5 (fun _ _ h => h) undef rfl
   | 30, ho =>
     cases ho
     have fg : aq.tmps.getD 55 undef = .bool false := z6 21 55 (hall { on := 21, ground := Ground.guard } (by simp) rfl) rfl
     refine wpOp_off rfl rfl rfl rfl fg ?_
     exact hJ2.put hS 30 64 rfl (by omega) z5 (fun _ _ h => h) undef rfl
   | 31, ho =>
     cases ho
     have fg : aq.tmps.getD 55 undef = .bool false := z6 21 55 (hall { on := 21, ground := Ground.guard } (by simp) rfl) rfl
     refine wpOp_off rfl rfl rfl rfl fg ?_
     exact hJ2.put hS 31 65 rfl (by omega) z5 (fun _ _ h => h) undef rfl
   | 32, ho =>
     cases ho
     have fg : aq.tmps.getD 55 undef = .bool false := z6 21 55 (hall { on := 21, ground := Ground.guard } (by simp) rfl) rfl
     refine wpOp_off rfl rfl rfl rfl fg ?_
     exact hJ2.put hS 32 66 rfl (by omega) z5 (fun _ _ h => h) undef rfl
   | 33, ho =>
     cases ho
     have fg : aq.tmps.getD 55 undef = .bool false := z6 21 55 (hall { on := 21, ground := Ground.guard } (by simp) rfl) rfl
     refine wpOp_off rfl rfl rfl rfl fg ?_
     exact hJ2.put hS 33 67 rfl (by omega) z5 (fun _ _ h => h) undef rfl
   | 34, ho =>
     cases ho
     have fg : aq.tmps.getD 55 undef = .bool false := z6 21 55 (hall { on := 21, ground := Ground.guard } (by simp) rfl) rfl
     refine wpOp_off rfl rfl rfl rfl fg ?_
     exact hJ2.put hS 34 68 rfl (by omega) z5 (fun _ _ h => h) undef rfl
   | 35, ho =>
     cases ho
     have fg : aq.tmps.getD 55 undef = .bool false := z6 21 55 (hall { on := 21, ground := Ground.guard } (by simp) rfl) rfl
     refine wpOp_off rfl rfl rfl rfl fg ?_
     exact hJ2.put hS 35 69 rfl (by omega) z5 (fun _ _ h => h) undef rfl
   | 36, ho =>
     cases ho
     have fg : aq.tmps.getD 52 undef = .bool false := z6 18 52 (hall { on := 18, ground := Ground.guard } (by simp) rfl) rfl
     refine wpOp_on rfl rfl rfl rfl fg ?_
     have f21 : (aq.tmps.getD 55 undef) = .bool false := z6 21 55 (hall { on := 21, ground := Ground.data } (by simp) rfl) rfl
     have f35 : (aq.tmps.getD 69 undef) = undef := z6 35 69 (hall { on := 35, ground := Ground.data } (by simp) rfl) rfl
     have hK := fun (v : Value) (W2 : World) hW hT hv => hJ2.put hS 36 70 rfl (by omega) (W' := W2) hW hT v hv
     clear ho hall hl hQ
     generalize InvQ _ _ _ w0 a0 (lq.setIfInBounds 36 true) = K at hK ⊢
     clear hJ2 hS z1 z2 z3 z4 z6 z7
     go_simp
     exact hK _ _ z5 (fun _ _ h => h) rfl
   | 37, ho =>
     cases ho
     refine wpOp_of rfl rfl ?_
     have f18 : (aq.tmps.getD 52 undef) = .bool false := z6 18 52 (hall { on := 18, ground := Ground.data } (by simp) rfl) rfl
     have f36 : (aq.tmps.getD 70 undef) = .bool false := z6 36 70 (hall { on := 36, ground := Ground.data } (by simp) rfl) rfl
     have hK := fun (v : Value) (W2 : World) hW hT hv => hJ2.put hS 37 71 rfl (by omega) (W' := W2) hW hT v hv
     clear ho hall hl hQ
     generalize InvQ _ _ _ w0 a0 (lq.setIfInBounds 37 true) = K at hK ⊢
     clear hJ2 hS z1 z2 z3 z4 z6 z7
     go_simp
     exact hK _ _ z5 (fun _ _ h => h) rfl
   | iq + 38, ho => simp at ho
 · intro lq aq W hJ hr
   obtain ⟨z1, z2, z3, z4, z5, z6, z7⟩ := hJ
   have hl := listed_of hr [0, 1, 2, 3, 4, 5, 6, 7, 8, 9, 10, 11, 12, 13, 14, 15, 16, 17, 18, 19, 20, 21, 22, 23, 24, 25, 26, 27, 28, 29, 30, 31, 32, 33, 34, 35, 36, 37] [] (by simp) (by kernel_rfl) (by rw [z1]; decide)
   exact hQ aq W z2 z3 (fun e he => z4 e (by simpa using he)) (z6 37 71 (hl 37 (by simp)) rfl) z5
def VrrD (P A off n cap k_ jj : Nat) (id ie a bb c d : Int) (_B : Nat) : Nat → Value → World → Prop
 | 0, v, _ => v = .pointer (some ⟨P, 2, none⟩)
 | 1, v, _ => v = .slice (some ⟨A, off, none⟩) n cap
 | 2, v, _ => v = .int .i64 (k_ : Int)
 | 3, v, _ => v = .pointer (some ⟨A, off + k_ * 5, none⟩)
 | 4, v, _ => v = .pointer (some ⟨A, off + k_ * 5, none⟩)
 | 5, v, _ => v = .int .i64 id
 | 6, v, _ => v = .bool (decide (1 ≤ id ∧ id ≤ 1000))
 | 7, v, _ => v = .bool false
 | 8, v, _ => v = .bool false
 | 9, v, _ => v = .pointer (some ⟨P, 2, none⟩)
 | 10, v, _ => v = .slice (some ⟨A, off, none⟩) n cap
 | 11, v, _ => v = .int .i64 (k_ : Int)
 | 12, v, _ => v = .pointer (some ⟨A, off + k_ * 5, none⟩)
 | 13, v, _ => v = .pointer (some ⟨A, off + k_ * 5 + 1, none⟩)
 | 14, v, _ => v = Sg a bb c d
 | 15, v, _ => v = .bool (segOk a bb c d)
 | 16, v, _ => v = .bool false
 | 17, v, _ => v = .bool false
 | 18, v, _ => v = .bool false
 | 19, v, _ => v = .int .i64 (k_ : Int)
 | 20, v, _ => v = .bool true
 | 21, v, _ => v = .bool true
 | 22, v, _ => v = .pointer (some ⟨P, 2, none⟩)
 | 23, v, _ => v = .slice (some ⟨A, off, none⟩) n cap
 | 24, v, _ => v = .int .i64 (k_ : Int)
 | 25, v, _ => v = .int .i64 (jj : Int)
 | 26, v, _ => v = .pointer (some ⟨A, off + jj * 5, none⟩)
 | 27, v, _ => v = .pointer (some ⟨A, off + jj * 5, none⟩)
 | 28, v, _ => v = .int .i64 ie
 | 29, v, _ => v = .pointer (some ⟨P, 2, none⟩)
 | 30, v, _ => v = .slice (some ⟨A, off, none⟩) n cap
 | 31, v, _ => v = .int .i64 (k_ : Int)
 | 32, v, _ => v = .pointer (some ⟨A, off + k_ * 5, none⟩)
 | 33, v, _ => v = .pointer (some ⟨A, off + k_ * 5, none⟩)
 | 34, v, _ => v = .int .i64 id
 | 35, v, _ => v = .bool (decide (id ≤ ie))
 | 36, v, _ => v = .bool (decide (id ≤ ie))
 | 37, v, _ => v = .bool (decide (id ≤ ie))
 | _, _, _ => True
theorem VrrD.mono {P A off n cap k_ jj : Nat} {id ie a bb c d : Int} {B j : Nat} {v : Value} {W W2 : World} (_hB : Below W.heap.size W W2) (h : VrrD P A off n cap k_ jj id ie a bb c d B j v W) : VrrD P A off n cap k_ jj id ie a bb c d B j v W2 := by
 unfold VrrD at *
 split <;> simp only at h <;> first | exact h | trivial
set_option maxRecDepth 100000 in
set_option maxHeartbeats 4000000 in
theorem rrD {Q : Exit → Act → World → Prop} {P A off n cap k_ jj : Nat} {id ie a bb c d : Int}  {w0 : World} {a0 : Act} {idq : Nat} {t0 t1 t2 t3 t4 t5 t6 t7 t8 t9 t10 t11 t12 t13 t14 t15 t16 t17 t18 t19 t20 t21 t22 t23 t24 t25 t26 t27 t28 t29 t30 t31 t32 t33 t34 t35 t36 t37 : TypeId} {q0 q1 q2 q3 q4 q5 q6 q7 q8 q9 q10 q11 q12 q13 q14 q15 q16 q17 q18 q19 q20 q21 q22 q23 q24 q25 q26 q27 q28 q29 q30 q31 q32 q33 q34 q35 q36 q37 : String}
   (hq1 : decide (1 ≤ id ∧ id ≤ 1000) = true) (hkn : k_ < n) (hn : n ≤ 40) (hq2 : segOk a bb c d = true) (hkj : Hid (k_ = jj + 1)) (h1 : a0.tmps[1]? = some (.pointer (some ⟨P, 0, none⟩))) (h4 : a0.tmps[4]? = some (.int .i64 (k_ : Int))) (k0 : w0.cell? ⟨P, 2, none⟩ = some (.slice (some ⟨A, off, none⟩) n cap)) (l0 : (⟨P, 2, none⟩ : Addr).block < w0.heap.size) (k1 : w0.cell? ⟨A, off + k_ * 5, none⟩ = some (.int .i64 id)) (l1 : (⟨A, off + k_ * 5, none⟩ : Addr).block < w0.heap.size) (k2 : w0.cell? ⟨A, off + k_ * 5 + 1, none⟩ = some (.int .i64 a)) (l2 : (⟨A, off + k_ * 5 + 1, none⟩ : Addr).block < w0.heap.size) (k3 : w0.cell? ⟨A, off + k_ * 5 + 1 + 1, none⟩ = some (.int .i64 bb)) (l3 : (⟨A, off + k_ * 5 + 1 + 1, none⟩ : Addr).block < w0.heap.size) (k4 : w0.cell? ⟨A, off + k_ * 5 + 1 + 2, none⟩ = some (.int .i64 c)) (l4 : (⟨A, off + k_ * 5 + 1 + 2, none⟩ : Addr).block < w0.heap.size) (k5 : w0.cell? ⟨A, off + k_ * 5 + 1 + 3, none⟩ = some (.int .i64 d)) (l5 : (⟨A, off + k_ * 5 + 1 + 3, none⟩ : Addr).block < w0.heap.size) (k6 : w0.cell? ⟨A, off + jj * 5, none⟩ = some (.int .i64 ie)) (l6 : (⟨A, off + jj * 5, none⟩ : Addr).block < w0.heap.size) (hz : a0.tmps.size = 100)
   (hQ : ∀ aq W, aq.tmps.size = a0.tmps.size → aq.defers = a0.defers → (∀ e, e ∉ ([34, 35, 36, 37, 38, 39, 40, 41, 42, 43, 44, 45, 46, 47, 48, 49, 50, 51, 52, 53, 54, 55, 56, 57, 58, 59, 60, 61, 62, 63, 64, 65, 66, 67, 68, 69, 70, 71] : List Nat) → aq.tmps[e]? = a0.tmps[e]?) → VrrD P A off n cap k_ jj id ie a bb c d w0.heap.size 37 (aq.tmps.getD 71 undef) W → Below w0.heap.size w0 W → Q .normal aq W) :
   (Code.region idq #[{ dst := some 34, op := Op.fieldAddr 35 (Operand.tmp 1) 2, type := t0, pos := q0, after := #[], guard := none },
   { dst := some 35, op := Op.load 32 (Operand.tmp 34), type := t1, pos := q1, after := #[{ on := 0, ground := Ground.data }], guard := none },
   { dst := some 36, op := Op.move (Operand.tmp 4), type := t2, pos := q2, after := #[], guard := none },
   { dst := some 37, op := Op.indexAddr 32 (Operand.tmp 35) (Operand.tmp 36), type := t3, pos := q3, after := #[{ on := 1, ground := Ground.data }, { on := 2, ground := Ground.data }], guard := none },
   { dst := some 38, op := Op.fieldAddr 56 (Operand.tmp 37) 0, type := t4, pos := q4, after := #[{ on := 3, ground := Ground.data }], guard := none },
   { dst := some 39, op := Op.load 2 (Operand.tmp 38), type := t5, pos := q5, after := #[{ on := 4, ground := Ground.data }], guard := none },
   { dst := some 40, op := Op.call { callee := Callee.value (Operand.func 32), args := #[Operand.tmp 39, Operand.const (Value.int IntKind.i64 1), Operand.const (Value.int IntKind.i64 1000)], argTypes := #[2, 2, 2] }, type := t6, pos := q6, after := #[{ on := 5, ground := Ground.data }], guard := none },
   { dst := some 41, op := Op.unOp UnOp.not 4 (Operand.tmp 40), type := t7, pos := q7, after := #[{ on := 6, ground := Ground.data }], guard := none },
   { dst := some 42, op := Op.move (Operand.tmp 41), type := t8, pos := q8, after := #[{ on := 7, ground := Ground.data }, { on := 6, ground := Ground.chain }], guard := none },
   { dst := some 43, op := Op.fieldAddr 35 (Operand.tmp 1) 2, type := t9, pos := q9, after := #[{ on := 8, ground := Ground.guard }], guard := some (8, false) },
   { dst := some 44, op := Op.load 32 (Operand.tmp 43), type := t10, pos := q10, after := #[{ on := 9, ground := Ground.data }, { on := 8, ground := Ground.guard }], guard := some (8, false) },
   { dst := some 45, op := Op.move (Operand.tmp 4), type := t11, pos := q11, after := #[{ on := 8, ground := Ground.guard }], guard := some (8, false) },
   { dst := some 46, op := Op.indexAddr 32 (Operand.tmp 44) (Operand.tmp 45), type := t12, pos := q12, after := #[{ on := 10, ground := Ground.data }, { on := 11, ground := Ground.data }, { on := 8, ground := Ground.guard }], guard := some (8, false) },
   { dst := some 47, op := Op.fieldAddr 56 (Operand.tmp 46) 1, type := t13, pos := q13, after := #[{ on := 12, ground := Ground.data }, { on := 8, ground := Ground.guard }], guard := some (8, false) },
   { dst := some 48, op := Op.load 54 (Operand.tmp 47), type := t14, pos := q14, after := #[{ on := 13, ground := Ground.data }, { on := 8, ground := Ground.guard }], guard := some (8, false) },
   { dst := some 49, op := Op.call { callee := Callee.value (Operand.func 33), args := #[Operand.tmp 48], argTypes := #[54] }, type := t15, pos := q15, after := #[{ on := 14, ground := Ground.data }, { on := 8, ground := Ground.chain }, { on := 8, ground := Ground.guard }], guard := some (8, false) },
   { dst := some 50, op := Op.unOp UnOp.not 4 (Operand.tmp 49), type := t16, pos := q16, after := #[{ on := 15, ground := Ground.data }, { on := 8, ground := Ground.guard }], guard := some (8, false) },
   { dst := some 51, op := Op.pick (Operand.tmp 42) (Operand.const (Value.bool true)) (Operand.tmp 50), type := t17, pos := q17, after := #[{ on := 8, ground := Ground.data }, { on := 16, ground := Ground.data }], guard := none },
   { dst := some 52, op := Op.move (Operand.tmp 51), type := t18, pos := q18, after := #[{ on := 17, ground := Ground.data }, { on := 15, ground := Ground.chain }], guard := none },
   { dst := some 53, op := Op.move (Operand.tmp 4), type := t19, pos := q19, after := #[{ on := 18, ground := Ground.guard }], guard := some (18, false) },
   { dst := some 54, op := Op.binOp BinOp.gtr 3 (Operand.tmp 53) (Operand.const (Value.int IntKind.i64 0)) 3, type := t20, pos := q20, after := #[{ on := 19, ground := Ground.data }, { on := 18, ground := Ground.guard }], guard := some (18, false) },
   { dst := some 55, op := Op.move (Operand.tmp 54), type := t21, pos := q21, after := #[{ on := 20, ground := Ground.data }, { on := 18, ground := Ground.chain }, { on := 18, ground := Ground.guard }], guard := some (18, false) },
   { dst := some 56, op := Op.fieldAddr 35 (Operand.tmp 1) 2, type := t22, pos := q22, after := #[{ on := 21, ground := Ground.guard }], guard := some (21, true) },
   { dst := some 57, op := Op.load 32 (Operand.tmp 56), type := t23, pos := q23, after := #[{ on := 22, ground := Ground.data }, { on := 21, ground := Ground.guard }], guard := some (21, true) },
   { dst := some 58, op := Op.move (Operand.tmp 4), type := t24, pos := q24, after := #[{ on := 21, ground := Ground.guard }], guard := some (21, true) },
   { dst := some 59, op := Op.binOp BinOp.sub 3 (Operand.tmp 58) (Operand.const (Value.int IntKind.i64 1)) 3, type := t25, pos := q25, after := #[{ on := 24, ground := Ground.data }, { on := 21, ground := Ground.guard }], guard := some (21, true) },
   { dst := some 60, op := Op.indexAddr 32 (Operand.tmp 57) (Operand.tmp 59), type := t26, pos := q26, after := #[{ on := 23, ground := Ground.data }, { on := 25, ground := Ground.data }, { on := 21, ground := Ground.guard }], guard := some (21, true) },
   { dst := some 61, op := Op.fieldAddr 56 (Operand.tmp 60) 0, type := t27, pos := q27, after := #[{ on := 26, ground := Ground.data }, { on := 21, ground := Ground.guard }], guard := some (21, true) },
   { dst := some 62, op := Op.load 2 (Operand.tmp 61), type := t28, pos := q28, after := #[{ on := 27, ground := Ground.data }, { on := 21, ground := Ground.guard }], guard := some (21, true) },
   { dst := some 63, op := Op.fieldAddr 35 (Operand.tmp 1) 2, type := t29, pos := q29, after := #[{ on := 21, ground := Ground.guard }], guard := some (21, true) },
   { dst := some 64, op := Op.load 32 (Operand.tmp 63), type := t30, pos := q30, after := #[{ on := 29, ground := Ground.data }, { on := 21, ground := Ground.guard }], guard := some (21, true) },
   { dst := some 65, op := Op.move (Operand.tmp 4), type := t31, pos := q31, after := #[{ on := 21, ground := Ground.guard }], guard := some (21, true) },
   { dst := some 66, op := Op.indexAddr 32 (Operand.tmp 64) (Operand.tmp 65), type := t32, pos := q32, after := #[{ on := 30, ground := Ground.data }, { on := 31, ground := Ground.data }, { on := 21, ground := Ground.guard }], guard := some (21, true) },
   { dst := some 67, op := Op.fieldAddr 56 (Operand.tmp 66) 0, type := t33, pos := q33, after := #[{ on := 32, ground := Ground.data }, { on := 21, ground := Ground.guard }], guard := some (21, true) },
   { dst := some 68, op := Op.load 2 (Operand.tmp 67), type := t34, pos := q34, after := #[{ on := 33, ground := Ground.data }, { on := 21, ground := Ground.guard }], guard := some (21, true) },
   { dst := some 69, op := Op.binOp BinOp.geq 2 (Operand.tmp 62) (Operand.tmp 68) 2, type := t35, pos := q35, after := #[{ on := 28, ground := Ground.data }, { on := 34, ground := Ground.data }, { on := 21, ground := Ground.guard }], guard := some (21, true) },
   { dst := some 70, op := Op.pick (Operand.tmp 55) (Operand.tmp 69) (Operand.const (Value.bool false)), type := t36, pos := q36, after := #[{ on := 21, ground := Ground.data }, { on := 35, ground := Ground.data }, { on := 18, ground := Ground.guard }], guard := some (18, false) },
   { dst := some 71, op := Op.pick (Operand.tmp 52) (Operand.const (Value.bool true)) (Operand.tmp 70), type := t37, pos := q37, after := #[{ on := 18, ground := Ground.data }, { on := 36, ground := Ground.data }], guard := none }] true).wp Try.prog Q a0 w0 := by
 have hS : distS [some 34, some 35, some 36, some 37, some 38, some 39, some 40, some 41, some 42, some 43, some 44, some 45, some 46, some 47, some 48, some 49, some 50, some 51, some 52, some 53, some 54, some 55, some 56, some 57, some 58, some 59, some 60, some 61, some 62, some 63, some 64, some 65, some 66, some 67, some 68, some 69, some 70, some 71] = true := rfl
 refine wp_region_q (by kernel_rfl) w0.heap.size [some 34, some 35, some 36, some 37, some 38, some 39, some 40, some 41, some 42, some 43, some 44, some 45, some 46, some 47, some 48, some 49, some 50, some 51, some 52, some 53, some 54, some 55, some 56, some 57, some 58, some 59, some 60, some 61, some 62, some 63, some 64, some 65, some 66, some 67, some 68, some 69, some 70, some 71] (VrrD P A off n cap k_ jj id ie a bb c d w0.heap.size) rfl ?_ ?_
 · intro Q lq aq W iq oq hJ hl ho hall
   have hJ2 := hJ
   obtain ⟨z1, z2, z3, z4, z5, z6, z7⟩ := hJ
   have g1 : aq.tmps.getD 1 undef = .pointer (some ⟨P, 0, none⟩) := by rw [Array.getD_eq_getD_getElem?, z4 1 (by decide), h1]; rfl
   have g4 : aq.tmps.getD 4 undef = .int .i64 (k_ : Int) := by rw [Array.getD_eq_getD_getElem?, z4 4 (by decide), h4]; rfl
   have c0 : W.cell? ⟨P, 2, none⟩ = some (.slice (some ⟨A, off, none⟩) n cap) := (z5.cell l0).trans k0
   have c1 : W.cell? ⟨A, off + k_ * 5, none⟩ = some (.int .i64 id) := (z5.cell l1).trans k1
   have c2 : W.cell? ⟨A, off + k_ * 5 + 1, none⟩ = some (.int .i64 a) := (z5.cell l2).trans k2
   have c3 : W.cell? ⟨A, off + k_ * 5 + 1 + 1, none⟩ = some (.int .i64 bb) := (z5.cell l3).trans k3
   have c4 : W.cell? ⟨A, off + k_ * 5 + 1 + 2, none⟩ = some (.int .i64 c) := (z5.cell l4).trans k4
   have c5 : W.cell? ⟨A, off + k_ * 5 + 1 + 3, none⟩ = some (.int .i64 d) := (z5.cell l5).trans k5
   have c6 : W.cell? ⟨A, off + jj * 5, none⟩ = some (.int .i64 ie) := (z5.cell l6).trans k6
   match iq, ho with
   | 0, ho =>
     cases ho
     refine wpOp_of rfl rfl ?_
     have hK := fun (v : Value) (W2 : World) hW hT hv => hJ2.put hS 0 34 rfl (by omega) (W' := W2) hW hT v hv
     clear ho hall hl hQ
     generalize InvQ _ _ _ w0 a0 (lq.setIfInBounds 0 true) = K at hK ⊢
     clear hJ2 hS z1 z2 z3 z4 z6 z7
     go_simp
     exact hK _ _ z5 (fun _ _ h => h) rfl
   | 1, ho =>
     cases ho
     refine wpOp_of rfl rfl ?_
     have f0 : (aq.tmps.getD 34 undef) = .pointer (some ⟨P, 2, none⟩) := z6 0 34 (hall { on := 0, ground := Ground.data } (by simp) rfl) rfl
     have hK := fun (v : Value) (W2 : World) hW hT hv => hJ2.put hS 1 35 rfl (by omega) (W' := W2) hW hT v hv
     clear ho hall hl hQ
     generalize InvQ _ _ _ w0 a0 (lq.setIfInBounds 1 true) = K at hK ⊢
     clear hJ2 hS z1 z2 z3 z4 z6 z7
     go_simp
     exact hK _ _ z5 (fun _ _ h => h) rfl
   | 2, ho =>
     cases ho
     refine wpOp_of rfl rfl ?_
     have hK := fun (v : Value) (W2 : World) hW hT hv => hJ2.put hS 2 36 rfl (by omega) (W' := W2) hW hT v hv
     clear ho hall hl hQ
     generalize InvQ _ _ _ w0 a0 (lq.setIfInBounds 2 true) = K at hK ⊢
     clear hJ2 hS z1 z2 z3 z4 z6 z7
     go_simp
     exact hK _ _ z5 (fun _ _ h => h) rfl
   | 3, ho =>
     cases ho
     refine wpOp_of rfl rfl ?_
     have f1 : (aq.tmps.getD 35 undef) = .slice (some ⟨A, off, none⟩) n cap := z6 1 35 (hall { on := 1, ground := Ground.data } (by simp) rfl) rfl
     have f2 : (aq.tmps.getD 36 undef) = .int .i64 (k_ : Int) := z6 2 36 (hall { on := 2, ground := Ground.data } (by simp) rfl) rfl
     have hkI0 : (k_ : Int) < n := by omega
     have hnI0 : (n : Int) ≤ 40 := by omega
     have hK := fun (v : Value) (W2 : World) hW hT hv => hJ2.put hS 3 37 rfl (by omega) (W' := W2) hW hT v hv
     clear ho hall hl hQ
     generalize InvQ _ _ _ w0 a0 (lq.setIfInBounds 3 true) = K at hK ⊢
     clear hJ2 hS z1 z2 z3 z4 z6 z7
     go_simp
     exact hK _ _ z5 (fun _ _ h => h) rfl
   | 4, ho =>
     cases ho
     refine wpOp_of rfl rfl ?_
     have f3 : (aq.tmps.getD 37 undef) = .pointer (some ⟨A, off + k_ * 5, none⟩) := z6 3 37 (hall { on := 3, ground := Ground.data } (by simp) rfl) rfl
     have hK := fun (v : Value) (W2 : World) hW hT hv => hJ2.put hS 4 38 rfl (by omega) (W' := W2) hW hT v hv
     clear ho hall hl hQ
     generalize InvQ _ _ _ w0 a0 (lq.setIfInBounds 4 true) = K at hK ⊢
     clear hJ2 hS z1 z2 z3 z4 z6 z7
     go_simp
     exact hK _ _ z5 (fun _ _ h => h) rfl
   | 5, ho =>
     cases ho
     refine wpOp_of rfl rfl ?_
     have f4 : (aq.tmps.getD 38 undef) = .pointer (some ⟨A, off + k_ * 5, none⟩) := z6 4 38 (hall { on := 4, ground := Ground.data } (by simp) rfl) rfl
     have hK := fun (v : Value) (W2 : World) hW hT hv => hJ2.put hS 5 39 rfl (by omega) (W' := W2) hW hT v hv
     clear ho hall hl hQ
     generalize InvQ _ _ _ w0 a0 (lq.setIfInBounds 5 true) = K at hK ⊢
     clear hJ2 hS z1 z2 z3 z4 z6 z7
     go_simp
     exact hK _ _ z5 (fun _ _ h => h) rfl
   | 6, ho =>
     cases ho
     refine wpOp_of rfl rfl ?_
     have f5 : (aq.tmps.getD 39 undef) = .int .i64 id := z6 5 39 (hall { on := 5, ground := Ground.data } (by simp) rfl) rfl
     have hK := fun (v : Value) (W2 : World) hW hT hv => hJ2.put hS 6 40 rfl (by omega) (W' := W2) hW hT v hv
     clear ho hall hl hQ
     generalize InvQ _ _ _ w0 a0 (lq.setIfInBounds 6 true) = K at hK ⊢
     clear hJ2 hS z1 z2 z3 z4 z6 z7
     go_simp
     refine (l1InQ_any id 1 1000 W).mono ?_
     rintro e v1 ⟨rfl, hBv⟩
     exact hK _ _ (z5.trans (hBv.mono z5.size)) (fun j v h => h.mono hBv) rfl
   | 7, ho =>
     cases ho
     refine wpOp_of rfl rfl ?_
     have f6 : (aq.tmps.getD 40 undef) = .bool (decide (1 ≤ id ∧ id ≤ 1000)) := z6 6 40 (hall { on := 6, ground := Ground.data } (by simp) rfl) rfl
     rw [hq1] at f6
     have hK := fun (v : Value) (W2 : World) hW hT hv => hJ2.put hS 7 41 rfl (by omega) (W' := W2) hW hT v hv
     clear ho hall hl hQ
     generalize InvQ _ _ _ w0 a0 (lq.setIfInBounds 7 true) = K at hK ⊢
     clear hJ2 hS z1 z2 z3 z4 z6 z7
     go_simp
     exact hK _ _ z5 (fun _ _ h => h) rfl
   | 8, ho =>
     cases ho
     refine wpOp_of rfl rfl ?_
     have f7 : (aq.tmps.getD 41 undef) = .bool false := z6 7 41 (hall { on := 7, ground := Ground.data } (by simp) rfl) rfl
     have hK := fun (v : Value) (W2 : World) hW hT hv => hJ2.put hS 8 42 rfl (by omega) (W' := W2) hW hT v hv
     clear ho hall hl hQ
     generalize InvQ _ _ _ w0 a0 (lq.setIfInBounds 8 true) = K at hK ⊢
     clear hJ2 hS z1 z2 z3 z4 z6 z7
     go_simp
     exact hK _ _ z5 (fun _ _ h => h) rfl
   | 9, ho =>
     cases ho
     have fg : aq.tmps.getD 42 undef = .bool false := z6 8 42 (hall { on := 8, ground := Ground.guard } (by simp) rfl) rfl
     refine wpOp_on rfl rfl rfl rfl fg ?_
     have hK := fun (v : Value) (W2 : World) hW hT hv => hJ2.put hS 9 43 rfl (by omega) (W' := W2) hW hT v hv
     clear ho hall hl hQ
     generalize InvQ _ _ _ w0 a0 (lq.setIfInBounds 9 true) = K at hK ⊢
     clear hJ2 hS z1 z2 z3 z4 z6 z7
     go_simp
     exact hK _ _ z5 (fun _ _ h => h) rfl
   | 10, ho =>
     cases ho
     have fg : aq.tmps.getD 42 undef = .bool false := z6 8 42 (hall { on := 8, ground := Ground.guard } (by simp) rfl) rfl
     refine wpOp_on rfl rfl rfl rfl fg ?_
     have f9 : (aq.tmps.getD 43 undef) = .pointer (some ⟨P, 2, none⟩) := z6 9 43 (hall { on := 9, ground := Ground.data } (by simp) rfl) rfl
     have hK := fun (v : Value) (W2 : World) hW hT hv => hJ2.put hS 10 44 rfl (by omega) (W' := W2) hW hT v hv
     clear ho hall hl hQ
     generalize InvQ _ _ _ w0 a0 (lq.setIfInBounds 10 true) = K at hK ⊢
     clear hJ2 hS z1 z2 z3 z4 z6 z7
     go_simp
     exact hK _ _ z5 (fun _ _ h => h) rfl
   | 11, ho =>
     cases ho
     have fg : aq.tmps.getD 42 undef = .bool false := z6 8 42 (hall { on := 8, ground := Ground.guard } (by simp) rfl) rfl
     refine wpOp_on rfl rfl rfl rfl fg ?_
     have hK := fun (v : Value) (W2 : World) hW hT hv => hJ2.put hS 11 45 rfl (by omega) (W' := W2) hW hT v hv
     clear ho hall hl hQ
     generalize InvQ _ _ _ w0 a0 (lq.setIfInBounds 11 true) = K at hK ⊢
     clear hJ2 hS z1 z2 z3 z4 z6 z7
     go_simp
     exact hK _ _ z5 (fun _ _ h => h) rfl
   | 12, ho =>
     cases ho
     have fg : aq.tmps.getD 42 undef = .bool false := z6 8 42 (hall { on := 8, ground := Ground.guard } (by simp) rfl) rfl
     refine wpOp_on rfl rfl rfl rfl fg ?_
     have f10 : (aq.tmps.getD 44 undef) = .slice (some ⟨A, off, none⟩) n cap := z6 10 44 (hall { on := 10, ground := Ground.data } (by simp) rfl) rfl
     have f11 : (aq.tmps.getD 45 undef) = .int .i64 (k_ : Int) := z6 11 45 (hall { on := 11, ground := Ground.data } (by simp) rfl) rfl
     have hkI0 : (k_ : Int) < n := by omega
     have hnI0 : (n : Int) ≤ 40 := by omega
     have hK := fun (v : Value) (W2 : World) hW hT hv => hJ2.put hS 12 46 rfl (by omega) (W' := W2) hW hT v hv
     clear ho hall hl hQ
     generalize InvQ _ _ _ w0 a0 (lq.setIfInBounds 12 true) = K at hK ⊢
     clear hJ2 hS z1 z2 z3 z4 z6 z7
     go_simp
     exact hK _ _ z5 (fun _ _ h => h) rfl
   | 13, ho =>
     cases ho
     have fg : aq.tmps.getD 42 undef = .bool false := z6 8 42 (hall { on := 8, ground := Ground.guard } (by simp) rfl) rfl
     refine wpOp_on rfl rfl rfl rfl fg ?_
     have f12 : (aq.tmps.getD 46 undef) = .pointer (some ⟨A, off + k_ * 5, none⟩) := z6 12 46 (hall { on := 12, ground := Ground.data } (by simp) rfl) rfl
     have hK := fun (v : Value) (W2 : World) hW hT hv => hJ2.put hS 13 47 rfl (by omega) (W' := W2) hW hT v hv
     clear ho hall hl hQ
     generalize InvQ _ _ _ w0 a0 (lq.setIfInBounds 13 true) = K at hK ⊢
     clear hJ2 hS z1 z2 z3 z4 z6 z7
     go_simp
     exact hK _ _ z5 (fun _ _ h => h) rfl
   | 14, ho =>
     cases ho
     have fg : aq.tmps.getD 42 undef = .bool false := z6 8 42 (hall { on := 8, ground := Ground.guard } (by simp) rfl) rfl
     refine wpOp_on rfl rfl rfl rfl fg ?_
     have f13 : (aq.tmps.getD 47 undef) = .pointer (some ⟨A, off + k_ * 5 + 1, none⟩) := z6 13 47 (hall { on := 13, ground := Ground.data } (by simp) rfl) rfl
     have hK := fun (v : Value) (W2 : World) hW hT hv => hJ2.put hS 14 48 rfl (by omega) (W' := W2) hW hT v hv
     clear ho hall hl hQ
     generalize InvQ _ _ _ w0 a0 (lq.setIfInBounds 14 true) = K at hK ⊢
     clear hJ2 hS z1 z2 z3 z4 z6 z7
     go_simp
     exact hK _ _ z5 (fun _ _ h => h) rfl
   | 15, ho =>
     cases ho
     have fg : aq.tmps.getD 42 undef = .bool false := z6 8 42 (hall { on := 8, ground := Ground.guard } (by simp) rfl) rfl
     refine wpOp_on rfl rfl rfl rfl fg ?_
     have f14 : (aq.tmps.getD 48 undef) = Sg a bb c d := z6 14 48 (hall { on := 14, ground := Ground.data } (by simp) rfl) rfl
     have hK := fun (v : Value) (W2 : World) hW hT hv => hJ2.put hS 15 49 rfl (by omega) (W' := W2) hW hT v hv
     clear ho hall hl hQ
     generalize InvQ _ _ _ w0 a0 (lq.setIfInBounds 15 true) = K at hK ⊢
     clear hJ2 hS z1 z2 z3 z4 z6 z7
     go_simp
     refine (specSegQ_any a bb c d W).mono ?_
     rintro e v1 ⟨rfl, hBv⟩
     exact hK _ _ (z5.trans (hBv.mono z5.size)) (fun j v h => h.mono hBv) rfl
   | 16, ho =>
     cases ho
     have fg : aq.tmps.getD 42 undef = .bool false := z6 8 42 (hall { on := 8, ground := Ground.guard } (by simp) rfl) rfl
     refine wpOp_on rfl rfl rfl rfl fg ?_
     have f15 : (aq.tmps.getD 49 undef) = .bool (segOk a bb c d) := z6 15 49 (hall { on := 15, ground := Ground.data } (by simp) rfl) rfl
     rw [hq2] at f15
     have hK := fun (v : Value) (W2 : World) hW hT hv => hJ2.put hS 16 50 rfl (by omega) (W' := W2) hW hT v hv
     clear ho hall hl hQ
     generalize InvQ _ _ _ w0 a0 (lq.setIfInBounds 16 true) = K at hK ⊢
     clear hJ2 hS z1 z2 z3 z4 z6 z7
     go_simp
     exact hK _ _ z5 (fun _ _ h => h) rfl
   | 17, ho =>
     cases ho
     refine wpOp_of rfl rfl ?_
     have f8 : (aq.tmps.getD 42 undef) = .bool false := z6 8 42 (hall { on := 8, ground := Ground.data } (by simp) rfl) rfl
     have f16 : (aq.tmps.getD 50 undef) = .bool false := z6 16 50 (hall { on := 16, ground := Ground.data } (by simp) rfl) rfl
     have hK := fun (v : Value) (W2 : World) hW hT hv => hJ2.put hS 17 51 rfl (by omega) (W' := W2) hW hT v hv
     clear ho hall hl hQ
     generalize InvQ _ _ _ w0 a0 (lq.setIfInBounds 17 true) = K at hK ⊢
     clear hJ2 hS z1 z2 z3 z4 z6 z7
     go_simp
     exact hK _ _ z5 (fun _ _ h => h) rfl
   | 18, ho =>
     cases ho
     refine wpOp_of rfl rfl ?_
     have f17 : (aq.tmps.getD 51 undef) = .bool false := z6 17 51 (hall { on := 17, ground := Ground.data } (by simp) rfl) rfl
     have hK := fun (v : Value) (W2 : World) hW hT hv => hJ2.put hS 18 52 rfl (by omega) (W' := W2) hW hT v hv
     clear ho hall hl hQ
     generalize InvQ _ _ _ w0 a0 (lq.setIfInBounds 18 true) = K at hK ⊢
     clear hJ2 hS z1 z2 z3 z4 z6 z7
     go_simp
     exact hK _ _ z5 (fun _ _ h => h) rfl
   | 19, ho =>
     cases ho
     have fg : aq.tmps.getD 52 undef = .bool false := z6 18 52 (hall { on := 18, ground := Ground.guard } (by simp) rfl) rfl
     refine wpOp_on rfl rfl rfl rfl fg ?_
     have hK := fun (v : Value) (W2 : World) hW hT hv => hJ2.put hS 19 53 rfl (by omega) (W' := W2) hW hT v hv
     clear ho hall hl hQ
     generalize InvQ _ _ _ w0 a0 (lq.setIfInBounds 19 true) = K at hK ⊢
     clear hJ2 hS z1 z2 z3 z4 z6 z7
     go_simp
     exact hK _ _ z5 (fun _ _ h => h) rfl
   | 20, ho =>
     cases ho
     have fg : aq.tmps.getD 52 undef = .bool false := z6 18 52 (hall { on := 18, ground := Ground.guard } (by simp) rfl) rfl
     refine wpOp_on rfl rfl rfl rfl fg ?_
     have f19 : (aq.tmps.getD 53 undef) = .int .i64 (k_ : Int) := z6 19 53 (hall { on := 19, ground := Ground.data } (by simp) rfl) rfl
     have hgt : (0 : Int) < k_ := by have ho := hkj.out; omega
     have hK := fun (v : Value) (W2 : World) hW hT hv => hJ2.put hS 20 54 rfl (by omega) (W' := W2) hW hT v hv
     clear ho hall hl hQ
     generalize InvQ _ _ _ w0 a0 (lq.setIfInBounds 20 true) = K at hK ⊢
     clear hJ2 hS z1 z2 z3 z4 z6 z7
     go_simp
     exact hK _ _ z5 (fun _ _ h => h) (by show _ = _; exact congrArg Value.bool (decide_eq_true (by omega)))
   | 21, ho =>
     cases ho
     have fg : aq.tmps.getD 52 undef = .bool false := z6 18 52 (hall { on := 18, ground := Ground.guard } (by simp) rfl) rfl
     refine wpOp_on rfl rfl rfl rfl fg ?_
     have f20 : (aq.tmps.getD 54 undef) = .bool true := z6 20 54 (hall { on := 20, ground := Ground.data } (by simp) rfl) rfl
     have hK := fun (v : Value) (W2 : World) hW hT hv => hJ2.put hS 21 55 rfl (by omega) (W' := W2) hW hT v hv
     clear ho hall hl hQ
     generalize InvQ _ _ _ w0 a0 (lq.setIfInBounds 21 true) = K at hK ⊢
     clear hJ2 hS z1 z2 z3 z4 z6 z7
     go_simp
     exact hK _ _ z5 (fun _ _ h => h) rfl
   | 22, ho =>
     cases ho
     have fg : aq.tmps.getD 55 undef = .bool true := z6 21 55 (hall { on := 21, ground := Ground.guard } (by simp) rfl) rfl
     refine wpOp_on rfl rfl rfl rfl fg ?_
     have hK := fun (v : Value) (W2 : World) hW hT hv => hJ2.put hS 22 56 rfl (by omega) (W' := W2) hW hT v hv
     clear ho hall hl hQ
     generalize InvQ _ _ _ w0 a0 (lq.setIfInBounds 22 true) = K at hK ⊢
     clear hJ2 hS z1 z2 z3 z4 z6 z7
     go_simp
     exact hK _ _ z5 (fun _ _ h => h) rfl
   | 23, ho =>
     cases ho
     have fg : aq.tmps.getD 55 undef = .bool true := z6 21 55 (hall { on := 21, ground := Ground.guard } (by simp) rfl) rfl
     refine wpOp_on rfl rfl rfl rfl fg ?_
     have f22 : (aq.tmps.getD 56 undef) = .pointer (some ⟨P, 2, none⟩) := z6 22 56 (hall { on := 22, ground := Ground.data } (by simp) rfl) rfl
     have hK := fun (v : Value) (W2 : World) hW hT hv => hJ2.put hS 23 57 rfl (by omega) (W' := W2) hW hT v hv
     clear ho hall hl hQ
     generalize InvQ _ _ _ w0 a0 (lq.setIfInBounds 23 true) = K at hK ⊢
     clear hJ2 hS z1 z2 z3 z4 z6 z7
     go_simp
     exact hK _ _ z5 (fun _ _ h => h) rfl
   | 24, ho =>
     cases ho
     have fg : aq.tmps.getD 55 undef = .bool true := z6 21 55 (hall { on := 21, ground := Ground.guard } (by simp) rfl) rfl
     refine wpOp_on rfl rfl rfl rfl fg ?_
     have hK := fun (v : Value) (W2 : World) hW hT hv => hJ2.put hS 24 58 rfl (by omega) (W' := W2) hW hT v hv
     clear ho hall hl hQ
     generalize InvQ _ _ _ w0 a0 (lq.setIfInBounds 24 true) = K at hK ⊢
     clear hJ2 hS z1 z2 z3 z4 z6 z7
     go_simp
     exact hK _ _ z5 (fun _ _ h => h) rfl
   | 25, ho =>
     cases ho
     have fg : aq.tmps.getD 55 undef = .bool true := z6 21 55 (hall { on := 21, ground := Ground.guard } (by simp) rfl) rfl
     refine wpOp_on rfl rfl rfl rfl fg ?_
     have f24 : (aq.tmps.getD 58 undef) = .int .i64 (k_ : Int) := z6 24 58 (hall { on := 24, ground := Ground.data } (by simp) rfl) rfl
     have hkz : (k_ : Int) = jj + 1 := by have ho := hkj.out; omega
     have hnI : (n : Int) ≤ 40 := by omega
     have hwd : IntKind.i64.wrap (jj : Int) = jj := by have ho := hkj.out; rw [IntKind.wrap_i64]; omega
     have hK := fun (v : Value) (W2 : World) hW hT hv => hJ2.put hS 25 59 rfl (by omega) (W' := W2) hW hT v hv
     clear ho hall hl hQ
     generalize InvQ _ _ _ w0 a0 (lq.setIfInBounds 25 true) = K at hK ⊢
     clear hJ2 hS z1 z2 z3 z4 z6 z7
     go_simp
     exact hK _ _ z5 (fun _ _ h => h) (by show _ = _; first | rfl | go_num)
   | 26, ho =>
     cases ho
     have fg : aq.tmps.getD 55 undef = .bool true := z6 21 55 (hall { on := 21, ground := Ground.guard } (by simp) rfl) rfl
     refine wpOp_on rfl rfl rfl rfl fg ?_
     have f23 : (aq.tmps.getD 57 undef) = .slice (some ⟨A, off, none⟩) n cap := z6 23 57 (hall { on := 23, ground := Ground.data } (by simp) rfl) rfl
     have f25 : (aq.tmps.getD 59 undef) = .int .i64 (jj : Int) := z6 25 59 (hall { on := 25, ground := Ground.data } (by simp) rfl) rfl
     have hjI : (jj : Int) < n := by have ho := hkj.out; omega
     have hnI : (n : Int) ≤ 40 := by omega
     have hK := fun (v : Value) (W2 : World) hW hT hv => hJ2.put hS 26 60 rfl (by omega) (W' := W2) hW hT v hv
     clear ho hall hl hQ
     generalize InvQ _ _ _ w0 a0 (lq.setIfInBounds 26 true) = K at hK ⊢
     clear hJ2 hS z1 z2 z3 z4 z6 z7
     go_simp
     exact hK _ _ z5 (fun _ _ h => h) rfl
   | 27, ho =>
     cases ho
     have fg : aq.tmps.getD 55 undef = .bool true := z6 21 55 (hall { on := 21, ground := Ground.guard } (by simp) rfl) rfl
     refine wpOp_on rfl rfl rfl rfl fg ?_
     have f26 : (aq.tmps.getD 60 undef) = .pointer (some ⟨A, off + jj * 5, none⟩) := z6 26 60 (hall { on := 26, ground := Ground.data } (by simp) rfl) rfl
     have hK := fun (v : Value) (W2 : World) hW hT hv => hJ2.put hS 27 61 rfl (by omega) (W' := W2) hW hT v hv
     clear ho hall hl hQ
     generalize InvQ _ _ _ w0 a0 (lq.setIfInBounds 27 true) = K at hK ⊢
     clear hJ2 hS z1 z2 z3 z4 z6 z7
     go_simp
     exact hK _ _ z5 (fun _ _ h => h) rfl
   | 28, ho =>
     cases ho
     have fg : aq.tmps.getD 55 undef = .bool true := z6 21 55 (hall { on := 21, ground := Ground.guard } (by simp) rfl) rfl
     refine wpOp_on rfl rfl rfl rfl fg ?_
     have f27 : (aq.tmps.getD 61 undef) = .pointer (some ⟨A, off + jj * 5, none⟩) := z6 27 61 (hall { on := 27, ground := Ground.data } (by simp) rfl) rfl
     have hK := fun (v : Value) (W2 : World) hW hT hv => hJ2.put hS 28 62 rfl (by omega) (W' := W2) hW hT v hv
     clear ho hall hl hQ
     generalize InvQ _ _ _ w0 a0 (lq.setIfInBounds 28 true) = K at hK ⊢
     clear hJ2 hS z1 z2 z3 z4 z6 z7
     go_simp
     exact hK _ _ z5 (fun _ _ h => h) rfl
   | 29, ho =>
     cases ho
     have fg : aq.tmps.getD 55 undef = .bool true := z6 21 55 (hall { on := 21, ground := Ground.guard } (by simp) rfl) rfl
     refine wpOp_on rfl rfl rfl rfl fg ?_
     have hK := fun (v : Value) (W2 : World) hW hT hv => hJ2.put hS 29 63 rfl (by omega) (W' := W2) hW hT v hv
     clear ho hall hl hQ
     generalize InvQ _ _ _ w0 a0 (lq.setIfInBounds 29 true) = K at hK ⊢
     clear hJ2 hS z1 z2 z3 z4 z6 z7
     go_simp
     exact hK _ _ z5 (fun _ _ h => h) rfl
   | 30, ho =>
     cases ho
     have fg : aq.tmps.getD 55 undef = .bool true := z6 21 55 (hall { on := 21, ground := Ground.guard } (by simp) rfl) rfl
     refine wpOp_on rfl rfl rfl rfl fg ?_
     have f29 : (aq.tmps.getD 63 undef) = .pointer (some ⟨P, 2, none⟩) := z6 29 63 (hall { on := 29, ground := Ground.data } (by simp) rfl) rfl
     have hK := fun (v : Value) (W2 : World) hW hT hv => hJ2.put hS 30 64 rfl (by omega) (W' := W2) hW hT v hv
     clear ho hall hl hQ
     generalize InvQ _ _ _ w0 a0 (lq.setIfInBounds 30 true) = K at hK ⊢
     clear hJ2 hS z1 z2 z3 z4 z6 z7
     go_simp
     exact hK _ _ z5 (fun _ _ h => h) rfl
   | 31, ho =>
     cases ho
     have fg : aq.tmps.getD 55 undef = .bool true := z6 21 55 (hall { on := 21, ground := Ground.guard } (by simp) rfl) rfl
     refine wpOp_on rfl rfl rfl rfl fg ?_
     have hK := fun (v : Value) (W2 : World) hW hT hv => hJ2.put hS 31 65 rfl (by omega) (W' := W2) hW hT v hv
     clear ho hall hl hQ
     generalize InvQ _ _ _ w0 a0 (lq.setIfInBounds 31 true) = K at hK ⊢
     clear hJ2 hS z1 z2 z3 z4 z6 z7
     go_simp
     exact hK _ _ z5 (fun _ _ h => h) rfl
   | 32, ho =>
     cases ho
     have fg : aq.tmps.getD 55 undef = .bool true := z6 21 55 (hall { on := 21, ground := Ground.guard } (by simp) rfl) rfl
     refine wpOp_on rfl rfl rfl rfl fg ?_
     have f30 : (aq.tmps.getD 64 undef) = .slice (some ⟨A, off, none⟩) n cap := z6 30 64 (hall { on := 30, ground := Ground.data } (by simp) rfl) rfl
     have f31 : (aq.tmps.getD 65 undef) = .int .i64 (k_ : Int) := z6 31 65 (hall { on := 31, ground := Ground.data } (by simp) rfl) rfl
     have hkI0 : (k_ : Int) < n := by omega
     have hnI0 : (n : Int) ≤ 40 := by omega
     have hK := fun (v : Value) (W2 : World) hW hT hv => hJ2.put hS 32 66 rfl (by omega) (W' := W2) hW hT v hv
     clear ho hall hl hQ
     generalize InvQ _ _ _ w0 a0 (lq.setIfInBounds 32 true) = K at hK ⊢
     clear hJ2 hS z1 z2 z3 z4 z6 z7
     go_simp
     exact hK _ _ z5 (fun _ _ h => h) rfl
   | 33, ho =>
     cases ho
     have fg : aq.tmps.getD 55 undef = .bool true := z6 21 55 (hall { on := 21, ground := Ground.guard } (by simp) rfl) rfl
     refine wpOp_on rfl rfl rfl rfl fg ?_
     have f32 : (aq.tmps.getD 66 undef) = .pointer (some ⟨A, off + k_ * 5, none⟩) := z6 32 66 (hall { on := 32, ground := Ground.data } (by simp) rfl) rfl
     have hK := fun (v : Value) (W2 : World) hW hT hv => hJ2.put hS 33 67 rfl (by omega) (W' := W2) hW hT v hv
     clear ho hall hl hQ
     generalize InvQ _ _ _ w0 a0 (lq.setIfInBounds 33 true) = K at hK ⊢
     clear hJ2 hS z1 z2 z3 z4 z6 z7
     go_simp
     exact hK _ _ z5 (fun _ _ h => h) rfl
   | 34, ho =>
     cases ho
     have fg : aq.tmps.getD 55 undef = .bool true := z6 21 55 (hall { on := 21, ground := Ground.guard } (by simp) rfl) rfl
     refine wpOp_on rfl rfl rfl rfl fg ?_
     have f33 : (aq.tmps.getD 67 undef) = .pointer (some ⟨A, off + k_ * 5, none⟩) := z6 33 67 (hall { on := 33, ground := Ground.data } (by simp) rfl) rfl
     have hK := fun (v : Value) (W2 : World) hW hT hv => hJ2.put hS 34 68 rfl (by omega) (W' := W2) hW hT v hv
     clear ho hall hl hQ
     generalize InvQ _ _ _ w0 a0 (lq.setIfInBounds 34 true) = K at hK ⊢
     clear hJ2 hS z1 z2 z3 z4 z6 z7
     go_simp
     exact hK _ _ z5 (fun _ _ h => h) rfl
   | 35, ho =>
     cases ho
     have fg : aq.tmps.getD 55 undef = .bool true := z6 21 55 (hall { on := 21, ground := Ground.guard } (by simp) rfl) rfl
     refine wpOp_on rfl rfl rfl rfl fg ?_
     have f28 : (aq.tmps.getD 62 undef) = .int .i64 ie := z6 28 62 (hall { on := 28, ground := Ground.data } (by simp) rfl) rfl
     have f34 : (aq.tmps.getD 68 undef) = .int .i64 id := z6 34 68 (hall { on := 34, ground := Ground.data } (by simp) rfl) rfl
     have hK := fun (v : Value) (W2 : World) hW hT hv => hJ2.put hS 35 69 rfl (by omega) (W' := W2) hW hT v hv
     clear ho hall hl hQ
     generalize InvQ _ _ _ w0 a0 (lq.setIfInBounds 35 true) = K at hK ⊢
     clear hJ2 hS z1 z2 z3 z4 z6 z7
     go_simp
     exact hK _ _ z5 (fun _ _ h => h) (by show _ = _; first | rfl | simp)
   | 36, ho =>
     cases ho
     have fg : aq.tmps.getD 52 undef = .bool false := z6 18 52 (hall { on := 18, ground := Ground.guard } (by simp) rfl) rfl
     refine wpOp_on rfl rfl rfl rfl fg ?_
     have f21 : (aq.tmps.getD 55 undef) = .bool true := z6 21 55 (hall { on := 21, ground := Ground.data } (by simp) rfl) rfl
     have f35 : (aq.tmps.getD 69 undef) = .bool (decide (id ≤ ie)) := z6 35 69 (hall { on := 35, ground := Ground.data } (by simp) rfl) rfl
     have hK := fun (v : Value) (W2 : World) hW hT hv => hJ2.put hS 36 70 rfl (by omega) (W' := W2) hW hT v hv
     clear ho hall hl hQ
     generalize InvQ _ _ _ w0 a0 (lq.setIfInBounds 36 true) = K at hK ⊢
     clear hJ2 hS z1 z2 z3 z4 z6 z7
     go_simp
     exact hK _ _ z5 (fun _ _ h => h) rfl
   | 37, ho =>
     cases ho
     refine wpOp_of rfl rfl ?_
     have f18 : (aq.tmps.getD 52 undef) = .bool false := z6 18 52 (hall { on := 18, ground := Ground.data } (by simp) rfl) rfl
     have f36 : (aq.tmps.getD 70 undef) = .bool (decide (id ≤ ie)) := z6 36 70 (hall { on := 36, ground := Ground.data } (by simp) rfl) rfl
     have hK := fun (v : Value) (W2 : World) hW hT hv => hJ2.put hS 37 71 rfl (by omega) (W' := W2) hW hT v hv
     clear ho hall hl hQ
     generalize InvQ _ _ _ w0 a0 (lq.setIfInBounds 37 true) = K at hK ⊢
     clear hJ2 hS z1 z2 z3 z4 z6 z7
     go_simp
     exact hK _ _ z5 (fun _ _ h => h) rfl
   | iq + 38, ho => simp at ho
 · intro lq aq W hJ hr
   obtain ⟨z1, z2, z3, z4, z5, z6, z7⟩ := hJ
   have hl := listed_of hr [0, 1, 2, 3, 4, 5, 6, 7, 8, 9, 10, 11, 12, 13, 14, 15, 16, 17, 18, 19, 20, 21, 22, 23, 24, 25, 26, 27, 28, 29, 30, 31, 32, 33, 34, 35, 36, 37] [] (by simp) (by kernel_rfl) (by rw [z1]; decide)
   exact hQ aq W z2 z3 (fun e he => z4 e (by simpa using he)) (z6 37 71 (hl 37 (by simp)) rfl) z5
end Go.Proofs.Ythelolpogdcmhaa
