/- Part 4 of the walks that the proof leans on. -/
import Derived.Test.YtjcpdihdlklapaaDoorRl2
import Derived.Test.YtjcpdihdlklapaaDoorRl3
import Derived.Laws.AppendOwn
import Derived.Test.YtjcpdihdlklapaaDoorRows
import Derived.Shelf.Strings.Split
import Derived.Shelf.Strings.SplitShaped
import Derived.Maps.AppendAt
import Derived.Shelf.Strings.OnBuilder
import Derived.Shelf.Strconv.Itoa4
namespace Go.Proofs.YtjcpdihdlklapaaDoor
open Go.RowKit
def ShP (s : ByteArray) (w : World) (e : Ending) (w' : World) : Prop :=
 Below w.heap.size w w' ∧ ((∃ z : Int, shB z = true ∧ s = bA (Lib.itoa z) ∧ e = .returned (.tuple #[.int .i64 z, .bool true])) ∨ ((∀ z : Int, shB z = true → s ≠ bA (Lib.itoa z)) ∧ e = .returned (.tuple #[.int .i64 0, .bool false])))
theorem sh_told {z : Int} (h : shB z = true) : told z = true := by
 have := of_decide_eq_true h
 unfold told
 exact decide_eq_true (by omega)
theorem i64_told {z : Int} (h0 : -9223372036854775808 ≤ z) (h1 : z ≤ 9223372036854775807) : told z = true := by
 unfold told
 exact decide_eq_true (by omega)
theorem rd_bA {s : ByteArray} (h : RdOk (btL s)) : s = bA (Lib.itoa (rdI (btL s))) := by
 rw [← txS_itoa]
 unfold txS
 rw [rd_tx h, strL_btL]
theorem bA_rd {z : Int} (h : shB z = true) : RdOk (btL (bA (Lib.itoa z))) ∧ rdI (btL (bA (Lib.itoa z))) = z := by
 rw [← txS_itoa, btL_txS]
 have := of_decide_eq_true h
 exact tx_rd (by omega)
theorem rd_short (s : ByteArray) : ∃ (y : Int) (b : Bool), rdV (btL s) = .tuple #[W4 y, .bool b] ∧ told y = true ∧ (b = true → s = bA (Lib.itoa y)) ∧ (b = false → y = 0 ∧ ∀ z : Int, shB z = true → s ≠ bA (Lib.itoa z)) := by
 by_cases h : RdOk (btL s)
 · rw [rdV_yes h]
   by_cases ht : told (rdI (btL s)) = true
   · refine ⟨rdI (btL s), true, by unfold tellV; rw [if_pos ht], ht, fun _ => rd_bA h, (fun e => by cases e)⟩
   · refine ⟨0, false, by unfold tellV; rw [if_neg ht], by decide, (fun e => by cases e), fun _ => ⟨rfl, fun z hz e => ?_⟩⟩
     subst e
     rw [(bA_rd hz).2] at ht
     exact ht (sh_told hz)
 · refine ⟨0, false, rdV_no h, by decide, (fun e => by cases e), fun _ => ⟨rfl, fun z hz e => ?_⟩⟩
   subst e
   exact h (bA_rd hz).1
theorem w4_eq {y n : Int} (ty : told y = true) (tn : told n = true) (h3 : ww3 y = ww3 n) (h2 : ww2 y = ww2 n) (h1 : ww1 y = ww1 n) (h0 : ww0 y = ww0 n) : y = n := by
 rw [← ww_sw ty, ← ww_sw tn, h3, h2, h1, h0]
theorem sh_same {y z : Int} (h : bA (Lib.itoa y) = bA (Lib.itoa z)) : y = z := itoa_inj (bA_inj h)
def VrlA (_cc : Nat) (_B : Nat) : Nat → Value → World → Prop
 | 0, v, _ => v = .bool false
 | 1, v, _ => v = .bool true
 | 2, v, _ => v = .bool true
 | 3, v, _ => v = undef
 | 4, v, _ => v = undef
 | 5, v, _ => v = undef
 | 6, v, _ => v = undef
 | 7, v, _ => v = .bool true
 | 8, v, _ => v = .bool true
 | 9, v, _ => v = undef
 | 10, v, _ => v = undef
 | 11, v, _ => v = undef
 | 12, v, _ => v = .bool true
 | _, _, _ => True
set_option maxRecDepth 100000 in
set_option maxHeartbeats 4000000 in
theorem rlA {Q : Exit → Act → World → Prop} {_cc : Nat}  {w0 : World} {a0 : Act} {idq : Nat} {t0 t1 t2 t3 t4 t5 t6 t7 t8 t9 t10 t11 t12 : TypeId} {q0 q1 q2 q3 q4 q5 q6 q7 q8 q9 q10 q11 q12 : String}
    (h5 : a0.tmps[5]? = some (.bool false))  (hz : a0.tmps.size = 29)
   (hQ : ∀ aq W, aq.tmps.size = a0.tmps.size → aq.defers = a0.defers → (∀ e, e ∉ ([15, 16, 17, 18, 19, 20, 21, 22, 23, 24, 25, 26, 27] : List Nat) → aq.tmps[e]? = a0.tmps[e]?) → VrlA _cc w0.heap.size 12 (aq.tmps.getD 27 undef) W → Below w0.heap.size w0 W → Q .normal aq W) :
   (Code.region idq #[{ dst := some 15, op := Op.move (Operand.tmp 5), type := t0, pos := q0, after := #[], guard := none },
   { dst := some 16, op := Op.unOp UnOp.not 4 (Operand.tmp 15), type := t1, pos := q1, after := #[{ on := 0, ground := Ground.data }], guard := none },
   { dst := some 17, op := Op.move (Operand.tmp 16), type := t2, pos := q2, after := #[{ on := 1, ground := Ground.data }], guard := none },
   { dst := some 18, op := Op.load 111 (Operand.tmp 4), type := t3, pos := q3, after := #[{ on := 2, ground := Ground.guard }], guard := some (2, false) },
   { dst := some 19, op := Op.move (Operand.tmp 6), type := t4, pos := q4, after := #[{ on := 2, ground := Ground.guard }], guard := some (2, false) },
   { dst := some 20, op := Op.call { callee := Callee.value (Operand.func 72), args := #[Operand.tmp 19], argTypes := #[2] }, type := t5, pos := q5, after := #[{ on := 4, ground := Ground.data }, { on := 2, ground := Ground.chain }, { on := 2, ground := Ground.guard }], guard := some (2, false) },
   { dst := some 21, op := Op.binOp BinOp.neq 111 (Operand.tmp 18) (Operand.tmp 20) 111, type := t6, pos := q6, after := #[{ on := 3, ground := Ground.data }, { on := 5, ground := Ground.data }, { on := 2, ground := Ground.guard }], guard := some (2, false) },
   { dst := some 22, op := Op.pick (Operand.tmp 17) (Operand.const (Value.bool true)) (Operand.tmp 21), type := t7, pos := q7, after := #[{ on := 2, ground := Ground.data }, { on := 6, ground := Ground.data }], guard := none },
   { dst := some 23, op := Op.move (Operand.tmp 22), type := t8, pos := q8, after := #[{ on := 7, ground := Ground.data }, { on := 5, ground := Ground.chain }], guard := none },
   { dst := some 24, op := Op.move (Operand.tmp 6), type := t9, pos := q9, after := #[{ on := 8, ground := Ground.guard }], guard := some (8, false) },
   { dst := some 25, op := Op.call { callee := Callee.value (Operand.func 46), args := #[Operand.tmp 24], argTypes := #[2] }, type := t10, pos := q10, after := #[{ on := 9, ground := Ground.data }, { on := 8, ground := Ground.chain }, { on := 8, ground := Ground.guard }], guard := some (8, false) },
   { dst := some 26, op := Op.unOp UnOp.not 4 (Operand.tmp 25), type := t11, pos := q11, after := #[{ on := 10, ground := Ground.data }, { on := 8, ground := Ground.guard }], guard := some (8, false) },
   { dst := some 27, op := Op.pick (Operand.tmp 23) (Operand.const (Value.bool true)) (Operand.tmp 26), type := t12, pos := q12, after := #[{ on := 8, ground := Ground.data }, { on := 11, ground := Ground.data }], guard := none }] true).wp Tryd.prog Q a0 w0 := by
 have hS : distS [some 15, some 16, some 17, some 18, some 19, some 20, some 21, some 22, some 23, some 24, some 25, some 26, some 27] = true := rfl
 refine wp_region_q (by kernel_rfl) w0.heap.size [some 15, some 16, some 17, some 18, some 19, some 20, some 21, some 22, some 23, some 24, some 25, some 26, some 27] (VrlA _cc w0.heap.size) rfl ?_ ?_
 · intro Q lq aq W iq oq hJ hl ho hall
   have hJ2 := hJ
   obtain ⟨z1, z2, z3, z4, z5, z6, z7⟩ := hJ
   have g5 : aq.tmps.getD 5 undef = .bool false := by rw [Array.getD_eq_getD_getElem?, z4 5 (by decide), h5]; rfl
   match iq, ho with
   | 0, ho =>
     cases ho
     refine wpOp_of rfl rfl ?_
     have hK := fun (v : Value) (W2 : World) hW hT hv => hJ2.put hS 0 15 rfl (by omega) (W' := W2) hW hT v hv
     clear ho hall hl hQ
     generalize InvQ _ _ _ w0 a0 (lq.setIfInBounds 0 true) = K at hK ⊢
     clear hJ2 hS z1 z2 z3 z4 z6 z7
     go_simp
     exact hK _ _ z5 (fun _ _ h => h) rfl
   | 1, ho =>
     cases ho
     refine wpOp_of rfl rfl ?_
     have f0 : (aq.tmps.getD 15 undef) = .bool false := z6 0 15 (hall { on := 0, ground := Ground.data } (by simp) rfl) rfl
     have hK := fun (v : Value) (W2 : World) hW hT hv => hJ2.put hS 1 16 rfl (by omega) (W' := W2) hW hT v hv
     clear ho hall hl hQ
     generalize InvQ _ _ _ w0 a0 (lq.setIfInBounds 1 true) = K at hK ⊢
     clear hJ2 hS z1 z2 z3 z4 z6 z7
     go_simp
     exact hK _ _ z5 (fun _ _ h => h) rfl
   | 2, ho =>
     cases ho
     refine wpOp_of rfl rfl ?_
     have f1 : (aq.tmps.getD 16 undef) = .bool true := z6 1 16 (hall { on := 1, ground := Ground.data } (by simp) rfl) rfl
     have hK := fun (v : Value) (W2 : World) hW hT hv => hJ2.put hS 2 17 rfl (by omega) (W' := W2) hW hT v hv
     clear ho hall hl hQ
     generalize InvQ _ _ _ w0 a0 (lq.setIfInBounds 2 true) = K at hK ⊢
     clear hJ2 hS z1 z2 z3 z4 z6 z7
     go_simp
     exact hK _ _ z5 (fun _ _ h => h) rfl
   | 3, ho =>
     cases ho
     have fg : aq.tmps.getD 17 undef = .bool true := z6 2 17 (hall { on := 2, ground := Ground.guard } (by simp) rfl) rfl
     refine wpOp_off rfl rfl rfl rfl fg ?_
     exact hJ2.put hS 3 18 rfl (by omega) z5 (fun _ _ h => h) undef rfl
   | 4, ho =>
     cases ho
     have fg : aq.tmps.getD 17 undef = .bool true := z6 2 17 (hall { on := 2, ground := Ground.guard } (by simp) rfl) rfl
     refine wpOp_off rfl rfl rfl rfl fg ?_
     exact hJ2.put hS 4 19 rfl (by omega) z5 (fun _ _ h => h) undef rfl
   | 5, ho =>
     cases ho
     have fg : aq.tmps.getD 17 undef = .bool true := z6 2 17 (hall { on := 2, ground := Ground.guard } (by simp) rfl) rfl
     refine wpOp_off rfl rfl rfl rfl fg ?_
     exact hJ2.put hS 5 20 rfl (by omega) z5 (fun _ _ h => h) undef rfl
   | 6, ho =>
     cases ho
     have fg : aq.tmps.getD 17 undef = .bool true := z6 2 17 (hall { on := 2, ground := Ground.guard } (by simp) rfl) rfl
     refine wpOp_off rfl rfl rfl rfl fg ?_
     exact hJ2.put hS 6 21 rfl (by omega) z5 (fun _ _ h => h) undef rfl
   | 7, ho =>
     cases ho
     refine wpOp_of rfl rfl ?_
     have f2 : (aq.tmps.getD 17 undef) = .bool true := z6 2 17 (hall { on := 2, ground := Ground.data } (by simp) rfl) rfl
     have f6 : (aq.tmps.getD 21 undef) = undef := z6 6 21 (hall { on := 6, ground := Ground.data } (by simp) rfl) rfl
     have hK := fun (v : Value) (W2 : World) hW hT hv => hJ2.put hS 7 22 rfl (by omega) (W' := W2) hW hT v hv
     clear ho hall hl hQ
     generalize InvQ _ _ _ w0 a0 (lq.setIfInBounds 7 true) = K at hK ⊢
     clear hJ2 hS z1 z2 z3 z4 z6 z7
     go_simp
     exact hK _ _ z5 (fun _ _ h => h) rfl
   | 8, ho =>
     cases ho
     refine wpOp_of rfl rfl ?_
     have f7 : (aq.tmps.getD 22 undef) = .bool true := z6 7 22 (hall { on := 7, ground := Ground.data } (by simp) rfl) rfl
     have hK := fun (v : Value) (W2 : World) hW hT hv => hJ2.put hS 8 23 rfl (by omega) (W' := W2) hW hT v hv
     clear ho hall hl hQ
     generalize InvQ _ _ _ w0 a0 (lq.setIfInBounds 8 true) = K at hK ⊢
     clear hJ2 hS z1 z2 z3 z4 z6 z7
     go_simp
     exact hK _ _ z5 (fun _ _ h => h) rfl
   | 9, ho =>
     cases ho
     have fg : aq.tmps.getD 23 undef = .bool true := z6 8 23 (hall { on := 8, ground := Ground.guard } (by simp) rfl) rfl
     refine wpOp_off rfl rfl rfl rfl fg ?_
     exact hJ2.put hS 9 24 rfl (by omega) z5 (fun _ _ h => h) undef rfl
   | 10, ho =>
     cases ho
     have fg : aq.tmps.getD 23 undef = .bool true := z6 8 23 (hall { on := 8, ground := Ground.guard } (by simp) rfl) rfl
     refine wpOp_off rfl rfl rfl rfl fg ?_
     exact hJ2.put hS 10 25 rfl (by omega) z5 (fun _ _ h => h) undef rfl
   | 11, ho =>
     cases ho
     have fg : aq.tmps.getD 23 undef = .bool true := z6 8 23 (hall { on := 8, ground := Ground.guard } (by simp) rfl) rfl
     refine wpOp_off rfl rfl rfl rfl fg ?_
     exact hJ2.put hS 11 26 rfl (by omega) z5 (fun _ _ h => h) undef rfl
   | 12, ho =>
     cases ho
     refine wpOp_of rfl rfl ?_
     have f8 : (aq.tmps.getD 23 undef) = .bool true := z6 8 23 (hall { on := 8, ground := Ground.data } (by simp) rfl) rfl
     have f11 : (aq.tmps.getD 26 undef) = undef := z6 11 26 (hall { on := 11, ground := Ground.data } (by simp) rfl) rfl
     have hK := fun (v : Value) (W2 : World) hW hT hv => hJ2.put hS 12 27 rfl (by omega) (W' := W2) hW hT v hv
     clear ho hall hl hQ
     generalize InvQ _ _ _ w0 a0 (lq.setIfInBounds 12 true) = K at hK ⊢
     clear hJ2 hS z1 z2 z3 z4 z6 z7
     go_simp
     exact hK _ _ z5 (fun _ _ h => h) rfl
   | iq + 13, ho => simp at ho
 · intro lq aq W hJ hr
   obtain ⟨z1, z2, z3, z4, z5, z6, z7⟩ := hJ
   have hl := listed_of hr [0, 1, 2, 3, 4, 5, 6, 7, 8, 9, 10, 11, 12] [] (by simp) (by kernel_rfl) (by rw [z1]; decide)
   exact hQ aq W z2 z3 (fun e he => z4 e (by simpa using he)) (z6 12 27 (hl 12 (by simp)) rfl) z5
def VrlB (y n : Int) (_B : Nat) : Nat → Value → World → Prop
 | 0, v, _ => v = .bool true
 | 1, v, _ => v = .bool false
 | 2, v, _ => v = .bool false
 | 3, v, _ => v = W4 y
 | 4, v, _ => v = .int .i64 n
 | 5, v, _ => v = W4 n
 | 6, v, _ => v = .bool true
 | 7, v, _ => v = .bool true
 | 8, v, _ => v = .bool true
 | 9, v, _ => v = undef
 | 10, v, _ => v = undef
 | 11, v, _ => v = undef
 | 12, v, _ => v = .bool true
 | _, _, _ => True
theorem VrlB.mono {y n : Int} {B j : Nat} {v : Value} {W W2 : World} (_hB : Below W.heap.size W W2) (h : VrlB y n B j v W) : VrlB y n B j v W2 := by
 unfold VrlB at *
 split <;> simp only at h <;> first | exact h | trivial
set_option maxRecDepth 100000 in
set_option maxHeartbeats 4000000 in
theorem rlB {Q : Exit → Act → World → Prop} {y n : Int} {P : Nat} {w0 : World} {a0 : Act} {idq : Nat} {t0 t1 t2 t3 t4 t5 t6 t7 t8 t9 t10 t11 t12 : TypeId} {q0 q1 q2 q3 q4 q5 q6 q7 q8 q9 q10 q11 q12 : String}
   (ty : told y = true) (tn : told n = true) (n0 : -9223372036854775808 ≤ n) (n1 : n ≤ 9223372036854775807) (hne : ¬ (y = n)) (h4 : a0.tmps[4]? = some (.pointer (some ⟨P, 0, none⟩))) (h5 : a0.tmps[5]? = some (.bool true)) (h6 : a0.tmps[6]? = some (.int .i64 n)) (k0 : w0.cell? ⟨P, 0, none⟩ = some (.int .u64 (ww3 y))) (l0 : (⟨P, 0, none⟩ : Addr).block < w0.heap.size) (k1 : w0.cell? ⟨P, 1, none⟩ = some (.int .u64 (ww2 y))) (l1 : (⟨P, 1, none⟩ : Addr).block < w0.heap.size) (k2 : w0.cell? ⟨P, 2, none⟩ = some (.int .u64 (ww1 y))) (l2 : (⟨P, 2, none⟩ : Addr).block < w0.heap.size) (k3 : w0.cell? ⟨P, 3, none⟩ = some (.int .u64 (ww0 y))) (l3 : (⟨P, 3, none⟩ : Addr).block < w0.heap.size) (hz : a0.tmps.size = 29)
   (hQ : ∀ aq W, aq.tmps.size = a0.tmps.size → aq.defers = a0.defers → (∀ e, e ∉ ([15, 16, 17, 18, 19, 20, 21, 22, 23, 24, 25, 26, 27] : List Nat) → aq.tmps[e]? = a0.tmps[e]?) → VrlB y n w0.heap.size 12 (aq.tmps.getD 27 undef) W → Below w0.heap.size w0 W → Q .normal aq W) :
   (Code.region idq #[{ dst := some 15, op := Op.move (Operand.tmp 5), type := t0, pos := q0, after := #[], guard := none },
   { dst := some 16, op := Op.unOp UnOp.not 4 (Operand.tmp 15), type := t1, pos := q1, after := #[{ on := 0, ground := Ground.data }], guard := none },
   { dst := some 17, op := Op.move (Operand.tmp 16), type := t2, pos := q2, after := #[{ on := 1, ground := Ground.data }], guard := none },
   { dst := some 18, op := Op.load 111 (Operand.tmp 4), type := t3, pos := q3, after := #[{ on := 2, ground := Ground.guard }], guard := some (2, false) },
   { dst := some 19, op := Op.move (Operand.tmp 6), type := t4, pos := q4, after := #[{ on := 2, ground := Ground.guard }], guard := some (2, false) },
   { dst := some 20, op := Op.call { callee := Callee.value (Operand.func 72), args := #[Operand.tmp 19], argTypes := #[2] }, type := t5, pos := q5, after := #[{ on := 4, ground := Ground.data }, { on := 2, ground := Ground.chain }, { on := 2, ground := Ground.guard }], guard := some (2, false) },
   { dst := some 21, op := Op.binOp BinOp.neq 111 (Operand.tmp 18) (Operand.tmp 20) 111, type := t6, pos := q6, after := #[{ on := 3, ground := Ground.data }, { on := 5, ground := Ground.data }, { on := 2, ground := Ground.guard }], guard := some (2, false) },
   { dst := some 22, op := Op.pick (Operand.tmp 17) (Operand.const (Value.bool true)) (Operand.tmp 21), type := t7, pos := q7, after := #[{ on := 2, ground := Ground.data }, { on := 6, ground := Ground.data }], guard := none },
   { dst := some 23, op := Op.move (Operand.tmp 22), type := t8, pos := q8, after := #[{ on := 7, ground := Ground.data }, { on := 5, ground := Ground.chain }], guard := none },
   { dst := some 24, op := Op.move (Operand.tmp 6), type := t9, pos := q9, after := #[{ on := 8, ground := Ground.guard }], guard := some (8, false) },
   { dst := some 25, op := Op.call { callee := Callee.value (Operand.func 46), args := #[Operand.tmp 24], argTypes := #[2] }, type := t10, pos := q10, after := #[{ on := 9, ground := Ground.data }, { on := 8, ground := Ground.chain }, { on := 8, ground := Ground.guard }], guard := some (8, false) },
   { dst := some 26, op := Op.unOp UnOp.not 4 (Operand.tmp 25), type := t11, pos := q11, after := #[{ on := 10, ground := Ground.data }, { on := 8, ground := Ground.guard }], guard := some (8, false) },
   { dst := some 27, op := Op.pick (Operand.tmp 23) (Operand.const (Value.bool true)) (Operand.tmp 26), type := t12, pos := q12, after := #[{ on := 8, ground := Ground.data }, { on := 11, ground := Ground.data }], guard := none }] true).wp Tryd.prog Q a0 w0 := by
 have hS : distS [some 15, some 16, some 17, some 18, some 19, some 20, some 21, some 22, some 23, some 24, some 25, some 26, some 27] = true := rfl
 refine wp_region_q (by kernel_rfl) w0.heap.size [some 15, some 16, some 17, some 18, some 19, some 20, some 21, some 22, some 23, some 24, some 25, some 26, some 27] (VrlB y n w0.heap.size) rfl ?_ ?_
 · intro Q lq aq W iq oq hJ hl ho hall
   have hJ2 := hJ
   obtain ⟨z1, z2, z3, z4, z5, z6, z7⟩ := hJ
   have g4 : aq.tmps.getD 4 undef = .pointer (some ⟨P, 0, none⟩) := by rw [Array.getD_eq_getD_getElem?, z4 4 (by decide), h4]; rfl
   have g5 : aq.tmps.getD 5 undef = .bool true := by rw [Array.getD_eq_getD_getElem?, z4 5 (by decide), h5]; rfl
   have g6 : aq.tmps.getD 6 undef = .int .i64 n := by rw [Array.getD_eq_getD_getElem?, z4 6 (by decide), h6]; rfl
   have c0 : W.cell? ⟨P, 0, none⟩ = some (.int .u64 (ww3 y)) := (z5.cell l0).trans k0
   have c1 : W.cell? ⟨P, 1, none⟩ = some (.int .u64 (ww2 y)) := (z5.cell l1).trans k1
   have c2 : W.cell? ⟨P, 2, none⟩ = some (.int .u64 (ww1 y)) := (z5.cell l2).trans k2
   have c3 : W.cell? ⟨P, 3, none⟩ = some (.int .u64 (ww0 y)) := (z5.cell l3).trans k3
   match iq, ho with
   | 0, ho =>
     cases ho
     refine wpOp_of rfl rfl ?_
     have hK := fun (v : Value) (W2 : World) hW hT hv => hJ2.put hS 0 15 rfl (by omega) (W' := W2) hW hT v hv
     clear ho hall hl hQ
     generalize InvQ _ _ _ w0 a0 (lq.setIfInBounds 0 true) = K at hK ⊢
     clear hJ2 hS z1 z2 z3 z4 z6 z7
     go_simp
     exact hK _ _ z5 (fun _ _ h => h) rfl
   | 1, ho =>
     cases ho
     refine wpOp_of rfl rfl ?_
     have f0 : (aq.tmps.getD 15 undef) = .bool true := z6 0 15 (hall { on := 0, ground := Ground.data } (by simp) rfl) rfl
     have hK := fun (v : Value) (W2 : World) hW hT hv => hJ2.put hS 1 16 rfl (by omega) (W' := W2) hW hT v hv
     clear ho hall hl hQ
     generalize InvQ _ _ _ w0 a0 (lq.setIfInBounds 1 true) = K at hK ⊢
     clear hJ2 hS z1 z2 z3 z4 z6 z7
     go_simp
     exact hK _ _ z5 (fun _ _ h => h) rfl
   | 2, ho =>
     cases ho
     refine wpOp_of rfl rfl ?_
     have f1 : (aq.tmps.getD 16 undef) = .bool false := z6 1 16 (hall { on := 1, ground := Ground.data } (by simp) rfl) rfl
     have hK := fun (v : Value) (W2 : World) hW hT hv => hJ2.put hS 2 17 rfl (by omega) (W' := W2) hW hT v hv
     clear ho hall hl hQ
     generalize InvQ _ _ _ w0 a0 (lq.setIfInBounds 2 true) = K at hK ⊢
     clear hJ2 hS z1 z2 z3 z4 z6 z7
     go_simp
     exact hK _ _ z5 (fun _ _ h => h) rfl
   | 3, ho =>
     cases ho
     have fg : aq.tmps.getD 17 undef = .bool false := z6 2 17 (hall { on := 2, ground := Ground.guard } (by simp) rfl) rfl
     refine wpOp_on rfl rfl rfl rfl fg ?_
     have hK := fun (v : Value) (W2 : World) hW hT hv => hJ2.put hS 3 18 rfl (by omega) (W' := W2) hW hT v hv
     clear ho hall hl hQ
     generalize InvQ _ _ _ w0 a0 (lq.setIfInBounds 3 true) = K at hK ⊢
     clear hJ2 hS z1 z2 z3 z4 z6 z7
     go_simp
     exact hK _ _ z5 (fun _ _ h => h) rfl
   | 4, ho =>
     cases ho
     have fg : aq.tmps.getD 17 undef = .bool false := z6 2 17 (hall { on := 2, ground := Ground.guard } (by simp) rfl) rfl
     refine wpOp_on rfl rfl rfl rfl fg ?_
     have hK := fun (v : Value) (W2 : World) hW hT hv => hJ2.put hS 4 19 rfl (by omega) (W' := W2) hW hT v hv
     clear ho hall hl hQ
     generalize InvQ _ _ _ w0 a0 (lq.setIfInBounds 4 true) = K at hK ⊢
     clear hJ2 hS z1 z2 z3 z4 z6 z7
     go_simp
     exact hK _ _ z5 (fun _ _ h => h) rfl
   | 5, ho =>
     cases ho
     have fg : aq.tmps.getD 17 undef = .bool false := z6 2 17 (hall { on := 2, ground := Ground.guard } (by simp) rfl) rfl
     refine wpOp_on rfl rfl rfl rfl fg ?_
     have f4 : (aq.tmps.getD 19 undef) = .int .i64 n := z6 4 19 (hall { on := 4, ground := Ground.data } (by simp) rfl) rfl
     have hK := fun (v : Value) (W2 : World) hW hT hv => hJ2.put hS 5 20 rfl (by omega) (W' := W2) hW hT v hv
     clear ho hall hl hQ
     generalize InvQ _ _ _ w0 a0 (lq.setIfInBounds 5 true) = K at hK ⊢
     clear hJ2 hS z1 z2 z3 z4 z6 z7
     go_simp
     refine (implOf_det n W n0 n1).mono ?_
     rintro e v1 ⟨rfl, hBv⟩
     exact hK _ _ (z5.trans (hBv.mono z5.size)) (fun j v h => h.mono hBv) rfl
   | 6, ho =>
     cases ho
     have fg : aq.tmps.getD 17 undef = .bool false := z6 2 17 (hall { on := 2, ground := Ground.guard } (by simp) rfl) rfl
     refine wpOp_on rfl rfl rfl rfl fg ?_
     have f3 : (aq.tmps.getD 18 undef) = W4 y := z6 3 18 (hall { on := 3, ground := Ground.data } (by simp) rfl) rfl
     have f5 : (aq.tmps.getD 20 undef) = W4 n := z6 5 20 (hall { on := 5, ground := Ground.data } (by simp) rfl) rfl
     have hK := fun (v : Value) (W2 : World) hW hT hv => hJ2.put hS 6 21 rfl (by omega) (W' := W2) hW hT v hv
     clear ho hall hl hQ
     generalize InvQ _ _ _ w0 a0 (lq.setIfInBounds 6 true) = K at hK ⊢
     clear hJ2 hS z1 z2 z3 z4 z6 z7
     go_simp
     repeat' split
     all_goals first | exact hK (.bool true) W z5 (fun _ _ h => h) rfl | exact absurd (w4_eq ty tn (by assumption) (by assumption) (by assumption) (by assumption)) hne
   | 7, ho =>
     cases ho
     refine wpOp_of rfl rfl ?_
     have f2 : (aq.tmps.getD 17 undef) = .bool false := z6 2 17 (hall { on := 2, ground := Ground.data } (by simp) rfl) rfl
     have f6 : (aq.tmps.getD 21 undef) = .bool true := z6 6 21 (hall { on := 6, ground := Ground.data } (by simp) rfl) rfl
     have hK := fun (v : Value) (W2 : World) hW hT hv => hJ2.put hS 7 22 rfl (by omega) (W' := W2) hW hT v hv
     clear ho hall hl hQ
     generalize InvQ _ _ _ w0 a0 (lq.setIfInBounds 7 true) = K at hK ⊢
     clear hJ2 hS z1 z2 z3 z4 z6 z7
     go_simp
     exact hK _ _ z5 (fun _ _ h => h) rfl
   | 8, ho =>
     cases ho
     refine wpOp_of rfl rfl ?_
     have f7 : (aq.tmps.getD 22 undef) = .bool true := z6 7 22 (hall { on := 7, ground := Ground.data } (by simp) rfl) rfl
     have hK := fun (v : Value) (W2 : World) hW hT hv => hJ2.put hS 8 23 rfl (by omega) (W' := W2) hW hT v hv
     clear ho hall hl hQ
     generalize InvQ _ _ _ w0 a0 (lq.setIfInBounds 8 true) = K at hK ⊢
     clear hJ2 hS z1 z2 z3 z4 z6 z7
     go_simp
     exact hK _ _ z5 (fun _ _ h => h) rfl
   | 9, ho =>
     cases ho
     have fg : aq.tmps.getD 23 undef = .bool true := z6 8 23 (hall { on := 8, ground := Ground.guard } (by simp) rfl) rfl
     refine wpOp_off rfl rfl rfl rfl fg ?_
     exact hJ2.put hS 9 24 rfl (by omega) z5 (fun _ _ h => h) undef rfl
   | 10, ho =>
     cases ho
     have fg : aq.tmps.getD 23 undef = .bool true := z6 8 23 (hall { on := 8, ground := Ground.guard } (by simp) rfl) rfl
     refine wpOp_off rfl rfl rfl rfl fg ?_
     exact hJ2.put hS 10 25 rfl (by omega) z5 (fun _ _ h => h) undef rfl
   | 11, ho =>
     cases ho
     have fg : aq.tmps.getD 23 undef = .bool true := z6 8 23 (hall { on := 8, ground := Ground.guard } (by simp) rfl) rfl
     refine wpOp_off rfl rfl rfl rfl fg ?_
     exact hJ2.put hS 11 26 rfl (by omega) z5 (fun _ _ h => h) undef rfl
   | 12, ho =>
     cases ho
     refine wpOp_of rfl rfl ?_
     have f8 : (aq.tmps.getD 23 undef) = .bool true := z6 8 23 (hall { on := 8, ground := Ground.data } (by simp) rfl) rfl
     have f11 : (aq.tmps.getD 26 undef) = undef := z6 11 26 (hall { on := 11, ground := Ground.data } (by simp) rfl) rfl
     have hK := fun (v : Value) (W2 : World) hW hT hv => hJ2.put hS 12 27 rfl (by omega) (W' := W2) hW hT v hv
     clear ho hall hl hQ
     generalize InvQ _ _ _ w0 a0 (lq.setIfInBounds 12 true) = K at hK ⊢
     clear hJ2 hS z1 z2 z3 z4 z6 z7
     go_simp
     exact hK _ _ z5 (fun _ _ h => h) rfl
   | iq + 13, ho => simp at ho
 · intro lq aq W hJ hr
   obtain ⟨z1, z2, z3, z4, z5, z6, z7⟩ := hJ
   have hl := listed_of hr [0, 1, 2, 3, 4, 5, 6, 7, 8, 9, 10, 11, 12] [] (by simp) (by kernel_rfl) (by rw [z1]; decide)
   exact hQ aq W z2 z3 (fun e he => z4 e (by simpa using he)) (z6 12 27 (hl 12 (by simp)) rfl) z5
def VrlC (y : Int) (c : Bool) (_B : Nat) : Nat → Value → World → Prop
 | 0, v, _ => v = .bool true
 | 1, v, _ => v = .bool false
 | 2, v, _ => v = .bool false
 | 3, v, _ => v = W4 y
 | 4, v, _ => v = .int .i64 y
 | 5, v, _ => v = W4 y
 | 6, v, _ => v = .bool false
 | 7, v, _ => v = .bool false
 | 8, v, _ => v = .bool false
 | 9, v, _ => v = .int .i64 y
 | 10, v, _ => v = .bool c
 | 11, v, _ => v = .bool (!c)
 | 12, v, _ => v = .bool (!c)
 | _, _, _ => True
theorem VrlC.mono {y : Int} {c : Bool} {B j : Nat} {v : Value} {W W2 : World} (_hB : Below W.heap.size W W2) (h : VrlC y c B j v W) : VrlC y c B j v W2 := by
 unfold VrlC at *
 split <;> simp only at h <;> first | exact h | trivial
set_option maxRecDepth 100000 in
set_option maxHeartbeats 4000000 in
theorem rlC {Q : Exit → Act → World → Prop} {y : Int} {c : Bool} {P : Nat} {w0 : World} {a0 : Act} {idq : Nat} {t0 t1 t2 t3 t4 t5 t6 t7 t8 t9 t10 t11 t12 : TypeId} {q0 q1 q2 q3 q4 q5 q6 q7 q8 q9 q10 q11 q12 : String}
   (n0 : -9223372036854775808 ≤ y) (n1 : y ≤ 9223372036854775807) (hc : shB y = c) (h4 : a0.tmps[4]? = some (.pointer (some ⟨P, 0, none⟩))) (h5 : a0.tmps[5]? = some (.bool true)) (h6 : a0.tmps[6]? = some (.int .i64 y)) (k0 : w0.cell? ⟨P, 0, none⟩ = some (.int .u64 (ww3 y))) (l0 : (⟨P, 0, none⟩ : Addr).block < w0.heap.size) (k1 : w0.cell? ⟨P, 1, none⟩ = some (.int .u64 (ww2 y))) (l1 : (⟨P, 1, none⟩ : Addr).block < w0.heap.size) (k2 : w0.cell? ⟨P, 2, none⟩ = some (.int .u64 (ww1 y))) (l2 : (⟨P, 2, none⟩ : Addr).block < w0.heap.size) (k3 : w0.cell? ⟨P, 3, none⟩ = some (.int .u64 (ww0 y))) (l3 : (⟨P, 3, none⟩ : Addr).block < w0.heap.size) (hz : a0.tmps.size = 29)
   (hQ : ∀ aq W, aq.tmps.size = a0.tmps.size → aq.defers = a0.defers → (∀ e, e ∉ ([15, 16, 17, 18, 19, 20, 21, 22, 23, 24, 25, 26, 27] : List Nat) → aq.tmps[e]? = a0.tmps[e]?) → VrlC y c w0.heap.size 12 (aq.tmps.getD 27 undef) W → Below w0.heap.size w0 W → Q .normal aq W) :
   (Code.region idq #[{ dst := some 15, op := Op.move (Operand.tmp 5), type := t0, pos := q0, after := #[], guard := none },
   { dst := some 16, op := Op.unOp UnOp.not 4 (Operand.tmp 15), type := t1, pos := q1, after := #[{ on := 0, ground := Ground.data }], guard := none },
   { dst := some 17, op := Op.move (Operand.tmp 16), type := t2, pos := q2, after := #[{ on := 1, ground := Ground.data }], guard := none },
   { dst := some 18, op := Op.load 111 (Operand.tmp 4), type := t3, pos := q3, after := #[{ on := 2, ground := Ground.guard }], guard := some (2, false) },
   { dst := some 19, op := Op.move (Operand.tmp 6), type := t4, pos := q4, after := #[{ on := 2, ground := Ground.guard }], guard := some (2, false) },
   { dst := some 20, op := Op.call { callee := Callee.value (Operand.func 72), args := #[Operand.tmp 19], argTypes := #[2] }, type := t5, pos := q5, after := #[{ on := 4, ground := Ground.data }, { on := 2, ground := Ground.chain }, { on := 2, ground := Ground.guard }], guard := some (2, false) },
   { dst := some 21, op := Op.binOp BinOp.neq 111 (Operand.tmp 18) (Operand.tmp 20) 111, type := t6, pos := q6, after := #[{ on := 3, ground := Ground.data }, { on := 5, ground := Ground.data }, { on := 2, ground := Ground.guard }], guard := some (2, false) },
   { dst := some 22, op := Op.pick (Operand.tmp 17) (Operand.const (Value.bool true)) (Operand.tmp 21), type := t7, pos := q7, after := #[{ on := 2, ground := Ground.data }, { on := 6, ground := Ground.data }], guard := none },
   { dst := some 23, op := Op.move (Operand.tmp 22), type := t8, pos := q8, after := #[{ on := 7, ground := Ground.data }, { on := 5, ground := Ground.chain }], guard := none },
   { dst := some 24, op := Op.move (Operand.tmp 6), type := t9, pos := q9, after := #[{ on := 8, ground := Ground.guard }], guard := some (8, false) },
   { dst := some 25, op := Op.call { callee := Callee.value (Operand.func 46), args := #[Operand.tmp 24], argTypes := #[2] }, type := t10, pos := q10, after := #[{ on := 9, ground := Ground.data }, { on := 8, ground := Ground.chain }, { on := 8, ground := Ground.guard }], guard := some (8, false) },
   { dst := some 26, op := Op.unOp UnOp.not 4 (Operand.tmp 25), type := t11, pos := q11, after := #[{ on := 10, ground := Ground.data }, { on := 8, ground := Ground.guard }], guard := some (8, false) },
   { dst := some 27, op := Op.pick (Operand.tmp 23) (Operand.const (Value.bool true)) (Operand.tmp 26), type := t12, pos := q12, after := #[{ on := 8, ground := Ground.data }, { on := 11, ground := Ground.data }], guard := none }] true).wp Tryd.prog Q a0 w0 := by
 have hS : distS [some 15, some 16, some 17, some 18, some 19, some 20, some 21, some 22, some 23, some 24, some 25, some 26, some 27] = true := rfl
 refine wp_region_q (by kernel_rfl) w0.heap.size [some 15, some 16, some 17, some 18, some 19, some 20, some 21, some 22, some 23, some 24, some 25, some 26, some 27] (VrlC y c w0.heap.size) rfl ?_ ?_
 · intro Q lq aq W iq oq hJ hl ho hall
   have hJ2 := hJ
   obtain ⟨z1, z2, z3, z4, z5, z6, z7⟩ := hJ
   have g4 : aq.tmps.getD 4 undef = .pointer (some ⟨P, 0, none⟩) := by rw [Array.getD_eq_getD_getElem?, z4 4 (by decide), h4]; rfl
   have g5 : aq.tmps.getD 5 undef = .bool true := by rw [Array.getD_eq_getD_getElem?, z4 5 (by decide), h5]; rfl
   have g6 : aq.tmps.getD 6 undef = .int .i64 y := by rw [Array.getD_eq_getD_getElem?, z4 6 (by decide), h6]; rfl
   have c0 : W.cell? ⟨P, 0, none⟩ = some (.int .u64 (ww3 y)) := (z5.cell l0).trans k0
   have c1 : W.cell? ⟨P, 1, none⟩ = some (.int .u64 (ww2 y)) := (z5.cell l1).trans k1
   have c2 : W.cell? ⟨P, 2, none⟩ = some (.int .u64 (ww1 y)) := (z5.cell l2).trans k2
   have c3 : W.cell? ⟨P, 3, none⟩ = some (.int .u64 (ww0 y)) := (z5.cell l3).trans k3
   match iq, ho with
   | 0, ho =>
     cases ho
     refine wpOp_of rfl rfl ?_
     have hK := fun (v : Value) (W2 : World) hW hT hv => hJ2.put hS 0 15 rfl (by omega) (W' := W2) hW hT v hv
     clear ho hall hl hQ
     generalize InvQ _ _ _ w0 a0 (lq.setIfInBounds 0 true) = K at hK ⊢
     clear hJ2 hS z1 z2 z3 z4 z6 z7
     go_simp
     exact hK _ _ z5 (fun _ _ h => h) rfl
   | 1, ho =>
     cases ho
     refine wpOp_of rfl rfl ?_
     have f0 : (aq.tmps.getD 15 undef) = .bool true := z6 0 15 (hall { on := 0, ground := Ground.data } (by simp) rfl) rfl
     have hK := fun (v : Value) (W2 : World) hW hT hv => hJ2.put hS 1 16 rfl (by omega) (W' := W2) hW hT v hv
     clear ho hall hl hQ
     generalize InvQ _ _ _ w0 a0 (lq.setIfInBounds 1 true) = K at hK ⊢
     clear hJ2 hS z1 z2 z3 z4 z6 z7
     go_simp
     exact hK _ _ z5 (fun _ _ h => h) rfl
   | 2, ho =>
     cases ho
     refine wpOp_of rfl rfl ?_
     have f1 : (aq.tmps.getD 16 undef) = .bool false := z6 1 16 (hall { on := 1, ground := Ground.data } (by simp) rfl) rfl
     have hK := fun (v : Value) (W2 : World) hW hT hv => hJ2.put hS 2 17 rfl (by omega) (W' := W2) hW hT v hv
     clear ho hall hl hQ
     generalize InvQ _ _ _ w0 a0 (lq.setIfInBounds 2 true) = K at hK ⊢
     clear hJ2 hS z1 z2 z3 z4 z6 z7
     go_simp
     exact hK _ _ z5 (fun _ _ h => h) rfl
   | 3, ho =>
     cases ho
     have fg : aq.tmps.getD 17 undef = .bool false := z6 2 17 (hall { on := 2, ground := Ground.guard } (by simp) rfl) rfl
     refine wpOp_on rfl rfl rfl rfl fg ?_
     have hK := fun (v : Value) (W2 : World) hW hT hv => hJ2.put hS 3 18 rfl (by omega) (W' := W2) hW hT v hv
     clear ho hall hl hQ
     generalize InvQ _ _ _ w0 a0 (lq.setIfInBounds 3 true) = K at hK ⊢
     clear hJ2 hS z1 z2 z3 z4 z6 z7
     go_simp
     exact hK _ _ z5 (fun _ _ h => h) rfl
   | 4, ho =>
     cases ho
     have fg : aq.tmps.getD 17 undef = .bool false := z6 2 17 (hall { on := 2, ground := Ground.guard } (by simp) rfl) rfl
     refine wpOp_on rfl rfl rfl rfl fg ?_
     have hK := fun (v : Value) (W2 : World) hW hT hv => hJ2.put hS 4 19 rfl (by omega) (W' := W2) hW hT v hv
     clear ho hall hl hQ
     generalize InvQ _ _ _ w0 a0 (lq.setIfInBounds 4 true) = K at hK ⊢
     clear hJ2 hS z1 z2 z3 z4 z6 z7
     go_simp
     exact hK _ _ z5 (fun _ _ h => h) rfl
   | 5, ho =>
     cases ho
     have fg : aq.tmps.getD 17 undef = .bool false := z6 2 17 (hall { on := 2, ground := Ground.guard } (by simp) rfl) rfl
     refine wpOp_on rfl rfl rfl rfl fg ?_
     have f4 : (aq.tmps.getD 19 undef) = .int .i64 y := z6 4 19 (hall { on := 4, ground := Ground.data } (by simp) rfl) rfl
     have hK := fun (v : Value) (W2 : World) hW hT hv => hJ2.put hS 5 20 rfl (by omega) (W' := W2) hW hT v hv
     clear ho hall hl hQ
     generalize InvQ _ _ _ w0 a0 (lq.setIfInBounds 5 true) = K at hK ⊢
     clear hJ2 hS z1 z2 z3 z4 z6 z7
     go_simp
     refine (implOf_det y W n0 n1).mono ?_
     rintro e v1 ⟨rfl, hBv⟩
     exact hK _ _ (z5.trans (hBv.mono z5.size)) (fun j v h => h.mono hBv) rfl
   | 6, ho =>
     cases ho
     have fg : aq.tmps.getD 17 undef = .bool false := z6 2 17 (hall { on := 2, ground := Ground.guard } (by simp) rfl) rfl
     refine wpOp_on rfl rfl rfl rfl fg ?_
     have f3 : (aq.tmps.getD 18 undef) = W4 y := z6 3 18 (hall { on := 3, ground := Ground.data } (by simp) rfl) rfl
     have f5 : (aq.tmps.getD 20 undef) = W4 y := z6 5 20 (hall { on := 5, ground := Ground.data } (by simp) rfl) rfl
     have hK := fun (v : Value) (W2 : World) hW hT hv => hJ2.put hS 6 21 rfl (by omega) (W' := W2) hW hT v hv
     clear ho hall hl hQ
     generalize InvQ _ _ _ w0 a0 (lq.setIfInBounds 6 true) = K at hK ⊢
     clear hJ2 hS z1 z2 z3 z4 z6 z7
     go_simp
     exact hK _ _ z5 (fun _ _ h => h) rfl
   | 7, ho =>
     cases ho
     refine wpOp_of rfl rfl ?_
     have f2 : (aq.tmps.getD 17 undef) = .bool false := z6 2 17 (hall { on := 2, ground := Ground.data } (by simp) rfl) rfl
     have f6 : (aq.tmps.getD 21 undef) = .bool false := z6 6 21 (hall { on := 6, ground := Ground.data } (by simp) rfl) rfl
     have hK := fun (v : Value) (W2 : World) hW hT hv => hJ2.put hS 7 22 rfl (by omega) (W' := W2) hW hT v hv
     clear ho hall hl hQ
     generalize InvQ _ _ _ w0 a0 (lq.setIfInBounds 7 true) = K at hK ⊢
     clear hJ2 hS z1 z2 z3 z4 z6 z7
     go_simp
     exact hK _ _ z5 (fun _ _ h => h) rfl
   | 8, ho =>
     cases ho
     refine wpOp_of rfl rfl ?_
     have f7 : (aq.tmps.getD 22 undef) = .bool false := z6 7 22 (hall { on := 7, ground := Ground.data } (by simp) rfl) rfl
     have hK := fun (v : Value) (W2 : World) hW hT hv => hJ2.put hS 8 23 rfl (by omega) (W' := W2) hW hT v hv
     clear ho hall hl hQ
     generalize InvQ _ _ _ w0 a0 (lq.setIfInBounds 8 true) = K at hK ⊢
     clear hJ2 hS z1 z2 z3 z4 z6 z7
     go_simp
     exact hK _ _ z5 (fun _ _ h => h) rfl
   | 9, ho =>
     cases ho
     have fg : aq.tmps.getD 23 undef = .bool false := z6 8 23 (hall { on := 8, ground := Ground.guard } (by simp) rfl) rfl
     refine wpOp_on rfl rfl rfl rfl fg ?_
     have hK := fun (v : Value) (W2 : World) hW hT hv => hJ2.put hS 9 24 rfl (by omega) (W' := W2) hW hT v hv
     clear ho hall hl hQ
     generalize InvQ _ _ _ w0 a0 (lq.setIfInBounds 9 true) = K at hK ⊢
     clear hJ2 hS z1 z2 z3 z4 z6 z7
     go_simp
     exact hK _ _ z5 (fun _ _ h => h) rfl
   | 10, ho =>
     cases ho
     have fg : aq.tmps.getD 23 undef = .bool false := z6 8 23 (hall { on := 8, ground := Ground.guard } (by simp) rfl) rfl
     refine wpOp_on rfl rfl rfl rfl fg ?_
     have f9 : (aq.tmps.getD 24 undef) = .int .i64 y := z6 9 24 (hall { on := 9, ground := Ground.data } (by simp) rfl) rfl
     have hK := fun (v : Value) (W2 : World) hW hT hv => hJ2.put hS 10 25 rfl (by omega) (W' := W2) hW hT v hv
     clear ho hall hl hQ
     generalize InvQ _ _ _ w0 a0 (lq.setIfInBounds 10 true) = K at hK ⊢
     clear hJ2 hS z1 z2 z3 z4 z6 z7
     go_simp
     refine (isShort_any y c hc W).mono ?_
     rintro e v1 ⟨rfl, hBv⟩
     exact hK _ _ (z5.trans (hBv.mono z5.size)) (fun j v h => h.mono hBv) rfl
   | 11, ho =>
     cases ho
     have fg : aq.tmps.getD 23 undef = .bool false := z6 8 23 (hall { on := 8, ground := Ground.guard } (by simp) rfl) rfl
     refine wpOp_on rfl rfl rfl rfl fg ?_
     have f10 : (aq.tmps.getD 25 undef) = .bool c := z6 10 25 (hall { on := 10, ground := Ground.data } (by simp) rfl) rfl
     have hK := fun (v : Value) (W2 : World) hW hT hv => hJ2.put hS 11 26 rfl (by omega) (W' := W2) hW hT v hv
     clear ho hall hl hQ
     generalize InvQ _ _ _ w0 a0 (lq.setIfInBounds 11 true) = K at hK ⊢
     clear hJ2 hS z1 z2 z3 z4 z6 z7
     go_simp
     exact hK _ _ z5 (fun _ _ h => h) rfl
   | 12, ho =>
     cases ho
     refine wpOp_of rfl rfl ?_
     have f8 : (aq.tmps.getD 23 undef) = .bool false := z6 8 23 (hall { on := 8, ground := Ground.data } (by simp) rfl) rfl
     have f11 : (aq.tmps.getD 26 undef) = .bool (!c) := z6 11 26 (hall { on := 11, ground := Ground.data } (by simp) rfl) rfl
     have hK := fun (v : Value) (W2 : World) hW hT hv => hJ2.put hS 12 27 rfl (by omega) (W' := W2) hW hT v hv
     clear ho hall hl hQ
     generalize InvQ _ _ _ w0 a0 (lq.setIfInBounds 12 true) = K at hK ⊢
     clear hJ2 hS z1 z2 z3 z4 z6 z7
     go_simp
     exact hK _ _ z5 (fun _ _ h => h) rfl
   | iq + 13, ho => simp at ho
 · intro lq aq W hJ hr
   obtain ⟨z1, z2, z3, z4, z5, z6, z7⟩ := hJ
   have hl := listed_of hr [0, 1, 2, 3, 4, 5, 6, 7, 8, 9, 10, 11, 12] [] (by simp) (by kernel_rfl) (by rw [z1]; decide)
   exact hQ aq W z2 z3 (fun e he => z4 e (by simpa using he)) (z6 12 27 (hl 12 (by simp)) rfl) z5
set_option maxRecDepth 100000 in
set_option maxHeartbeats 4000000 in
theorem readShort_any (s : ByteArray) (hm : s.size ≤ 9223372036854775807) (w : World) : Calls Tryd.prog 57 #[.string s] w (ShP s w) := by
 have C := implRead_any s hm w
 obtain ⟨y, b, hv, ty, hb1, hb0⟩ := rd_short s
 rw [hv] at C
 have HB1 : Hid (b = true → s = bA (Lib.itoa y)) := hb1
 have HB0 : Hid (b = false → y = 0 ∧ ∀ z : Int, shB z = true → s ≠ bA (Lib.itoa z)) := hb0
 clear hv hb1 hb0 hm
 go_enter Tryd.func57, Tryd.ntmps57
 go_wp2_with fail
 refine C.mono ?_
 rintro e w1 ⟨rfl, hB⟩
 have X := Blk.new w1 [.int .u64 (ww3 y), .int .u64 (ww2 y), .int .u64 (ww1 y), .int .u64 (ww0 y)] 111 rfl
 have HB := hB.alloc hB.size (.cells #[.int .u64 (ww3 y), .int .u64 (ww2 y), .int .u64 (ww1 y), .int .u64 (ww0 y)] 111)
 clear C hB
 obtain ⟨n, hn⟩ : ∃ n, IntKind.i64.wrap (ww0 y) = n := ⟨_, rfl⟩
 have n0 : -9223372036854775808 ≤ n := by rw [← hn, IntKind.wrap_i64]; omega
 have n1 : n ≤ 9223372036854775807 := by rw [← hn, IntKind.wrap_i64]; omega
 have HY : Hid (-9223372036854775808 ≤ y → y ≤ 9223372036854775807 → y = n) := fun h0 h1 => by rw [← hn, IntKind.wrap_i64]; unfold ww0; omega
 go_upto_region 2 with fail
 generalize w1.heap.size = P at *
 revert X
 rw [show ([.int .u64 (ww3 y), .int .u64 (ww2 y), .int .u64 (ww1 y), .int .u64 (ww0 y)] : List Value).toArray = #[.int .u64 (ww3 y), .int .u64 (ww2 y), .int .u64 (ww1 y), .int .u64 (ww0 y)] from rfl]
 intro X
 generalize (w1.alloc (.cells #[.int .u64 (ww3 y), .int .u64 (ww2 y), .int .u64 (ww1 y), .int .u64 (ww0 y)] 111)) = W2 at *
 have x3 := X.c 3 rfl
 go_upto_region 3 with fail
 clear x3
 cases b with
 | false =>
   obtain ⟨hy0, hno⟩ := HB0.out rfl
   have HN : Hid (∀ z : Int, shB z = true → s ≠ bA (Lib.itoa z)) := hno
   clear hno HB1 HB0
   refine rlA (_cc := 0) rfl rfl ?_
   rintro ⟨tm, df⟩ Wz hz hdf hoff hx hBz
   simp only at hz hdf hoff hx
   change tm.getD 27 undef = .bool true at hx
   subst hdf
   have htm := tmps_fold [15, 16, 17, 18, 19, 20, 21, 22, 23, 24, 25, 26, 27] tm _ hz hoff
   simp only [List.foldl, List.setIfInBounds_toArray, List.set_cons_zero, List.set_cons_succ, hx] at htm
   clear hz hoff
   generalize tm.getD 15 undef = u0, tm.getD 16 undef = u1, tm.getD 17 undef = u2, tm.getD 18 undef = u3, tm.getD 19 undef = u4, tm.getD 20 undef = u5, tm.getD 21 undef = u6, tm.getD 22 undef = u7, tm.getD 23 undef = u8, tm.getD 24 undef = u9, tm.getD 25 undef = u10, tm.getD 26 undef = u11 at htm
   clear hx
   subst htm
   have HBN := HB.trans (hBz.mono HB.size)
   clear HB hBz X
   go_wp2
   refine bodyPost_ret (v := .tuple #[.int .i64 0, .bool false]) (by simp [results, Tryd.results57, go_sem]) rfl ?_
   exact ⟨HBN, Or.inr ⟨HN.out, rfl⟩⟩
 | true =>
   have HS : Hid (s = bA (Lib.itoa y)) := HB1.out rfl
   clear HB1 HB0
   by_cases hyn : y = n
   · clear HY hn
     subst hyn
     obtain ⟨c, hc⟩ : ∃ c, shB y = c := ⟨_, rfl⟩
     refine rlC (P := P) (y := y) (c := c) n0 n1 hc rfl rfl rfl (X.c 0 rfl) X.lt (X.c 1 rfl) X.lt (X.c 2 rfl) X.lt (X.c 3 rfl) X.lt rfl ?_
     rintro ⟨tm, df⟩ Wz hz hdf hoff hx hBz
     simp only at hz hdf hoff hx
     change tm.getD 27 undef = .bool (!c) at hx
     subst hdf
     have htm := tmps_fold [15, 16, 17, 18, 19, 20, 21, 22, 23, 24, 25, 26, 27] tm _ hz hoff
     simp only [List.foldl, List.setIfInBounds_toArray, List.set_cons_zero, List.set_cons_succ, hx] at htm
     clear hz hoff
     generalize tm.getD 15 undef = u0, tm.getD 16 undef = u1, tm.getD 17 undef = u2, tm.getD 18 undef = u3, tm.getD 19 undef = u4, tm.getD 20 undef = u5, tm.getD 21 undef = u6, tm.getD 22 undef = u7, tm.getD 23 undef = u8, tm.getD 24 undef = u9, tm.getD 25 undef = u10, tm.getD 26 undef = u11 at htm
     clear hx
     subst htm
     have HBN := HB.trans (hBz.mono HB.size)
     clear HB hBz X
     cases c with
     | true =>
       go_wp2
       refine bodyPost_ret (v := .tuple #[.int .i64 y, .bool true]) (by simp [results, Tryd.results57, go_sem]) rfl ?_
       exact ⟨HBN, Or.inl ⟨y, hc, HS.out, rfl⟩⟩
     | false =>
       go_wp2
       refine bodyPost_ret (v := .tuple #[.int .i64 0, .bool false]) (by simp [results, Tryd.results57, go_sem]) rfl ?_
       refine ⟨HBN, Or.inr ⟨fun z hz e => ?_, rfl⟩⟩
       rw [HS.out] at e
       rw [sh_same e, hz] at hc
       cases hc
   · have HN : Hid (∀ z : Int, shB z = true → s ≠ bA (Lib.itoa z)) := fun z hz e => by
       rw [HS.out] at e
       have := of_decide_eq_true hz
       obtain rfl := sh_same e
       exact hyn (HY.out (by omega) (by omega))
     refine rlB (P := P) (y := y) (n := n) ty (i64_told n0 n1) n0 n1 hyn rfl rfl rfl (X.c 0 rfl) X.lt (X.c 1 rfl) X.lt (X.c 2 rfl) X.lt (X.c 3 rfl) X.lt rfl ?_
     rintro ⟨tm, df⟩ Wz hz hdf hoff hx hBz
     simp only at hz hdf hoff hx
     change tm.getD 27 undef = .bool true at hx
     subst hdf
     have htm := tmps_fold [15, 16, 17, 18, 19, 20, 21, 22, 23, 24, 25, 26, 27] tm _ hz hoff
     simp only [List.foldl, List.setIfInBounds_toArray, List.set_cons_zero, List.set_cons_succ, hx] at htm
     clear hz hoff
     generalize tm.getD 15 undef = u0, tm.getD 16 undef = u1, tm.getD 17 undef = u2, tm.getD 18 undef = u3, tm.getD 19 undef = u4, tm.getD 20 undef = u5, tm.getD 21 undef = u6, tm.getD 22 undef = u7, tm.getD 23 undef = u8, tm.getD 24 undef = u9, tm.getD 25 undef = u10, tm.getD 26 undef = u11 at htm
     clear hx
     subst htm
     have HBN := HB.trans (hBz.mono HB.size)
     clear HB hBz X HS HY
     go_wp2
     refine bodyPost_ret (v := .tuple #[.int .i64 0, .bool false]) (by simp [results, Tryd.results57, go_sem]) rfl ?_
     exact ⟨HBN, Or.inr ⟨HN.out, rfl⟩⟩
abbrev Zz2 := Int × Int
def spM (M : List Zz2) : List Value := M.flatMap fun t => [.int .i64 t.1, .int .i64 t.2]
def ptM (M : List Zz2) : List (List UInt8) := M.flatMap fun t => [Lib.itoa t.1, Lib.itoa t.2]
def ShM (M : List Zz2) : Prop := ∀ t ∈ M, shB t.1 = true ∧ shB t.2 = true
theorem ptM_len (M : List Zz2) : (ptM M).length = M.length * 2 := by
 induction M with
 | nil => rfl
 | cons t M ih => simp only [ptM, List.flatMap_cons, List.length_append, List.length_cons, List.length_nil] at ih ⊢; omega
theorem ptM_snoc (M : List Zz2) (t : Zz2) : ptM (M ++ [t]) = ptM M ++ [Lib.itoa t.1, Lib.itoa t.2] := by simp [ptM]
theorem spM_snoc (M : List Zz2) (t : Zz2) : spM (M ++ [t]) = spM M ++ [.int .i64 t.1, .int .i64 t.2] := by simp [spM]
theorem ptM_at : ∀ {M : List Zz2} {k : Nat} {t : Zz2}, M[k]? = some t → (ptM M)[k * 2]? = some (Lib.itoa t.1) ∧ (ptM M)[k * 2 + 1]? = some (Lib.itoa t.2)
 | [], k, t, h => by simp at h
 | u :: M, 0, t, h => by
   obtain rfl : u = t := by simpa using h
   simp [ptM]
 | u :: M, k + 1, t, h => by
   have ih := ptM_at (M := M) (k := k) (t := t) (by simpa using h)
   simp only [ptM, List.flatMap_cons] at ih ⊢
   rw [show (k + 1) * 2 = k * 2 + 1 + 1 by omega]
   simpa using ih
def TsIn (w : World) (g : Nat) (xs : List ByteArray) : Prop := g < w.heap.size ∧ ∀ j x, xs[j]? = some x → w.cell? ⟨g, j, none⟩ = some (.string x)
theorem TsIn.step {w w' : World} {g : Nat} {xs : List ByteArray} (h : TsIn w g xs) (hB : Below w.heap.size w w') : TsIn w' g xs :=
 ⟨Nat.lt_of_lt_of_le h.1 hB.size, fun j x hx => (hB.cell (p := ⟨g, j, none⟩) h.1).trans (h.2 j x hx)⟩
def SpsP (xs : List ByteArray) (w : World) (e : Ending) (w' : World) : Prop :=
 Below w.heap.size w w' ∧ ((∃ (M : List Zz2) (v : Value), xs = (ptM M).map bA ∧ ShM M ∧ e = .returned (.tuple #[v, .bool true]) ∧ w'.ownsRow w.heap.size 41 2 v M.length (spM M)) ∨ ((∀ M : List Zz2, ShM M → xs ≠ (ptM M).map bA) ∧ e = .returned (.tuple #[.slice none 0 0, .bool false])))
theorem sps_no {xs : List ByteArray} {k j : Nat} {s : ByteArray} (hk : k * 2 + 1 < xs.length) (hj : j = k * 2 ∨ j = k * 2 + 1) (hs : xs[j]? = some s) (hno : ∀ z : Int, shB z = true → s ≠ bA (Lib.itoa z)) : ∀ M : List Zz2, ShM M → xs ≠ (ptM M).map bA := fun M hM e => by
 subst e
 rw [List.length_map, ptM_len] at hk
 obtain ⟨t, ht⟩ : ∃ t, M[k]? = some t := ⟨M[k]'(by omega), List.getElem?_eq_getElem _⟩
 have h1 := ptM_at ht
 have h2 := hM t (List.mem_of_getElem? ht)
 rw [List.getElem?_map] at hs
 rcases hj with rfl | rfl
 · rw [h1.1] at hs
   exact hno _ h2.1 (Option.some.inj hs).symm
 · rw [h1.2] at hs
   exact hno _ h2.2 (Option.some.inj hs).symm
theorem Tryd.infoSp : (Tryd.prog.info? 41).map (fun i => (i.zero, i.size, i.bytes)) = some (some (.agg #[.int .i64 0, .int .i64 0]), 2, 16) := by kernel_rfl
theorem one_cellS (x y : Int) : ∀ u ∈ [Value.int .i64 x, Value.int .i64 y], u.oneCell' = true := by
 intro u hu
 simp only [List.mem_cons, List.not_mem_nil, or_false] at hu
 rcases hu with rfl | rfl <;> rfl
theorem ownS_step {w w' : World} {base n : Nat} {e : TypeId} {size : Nat} {v : Value} {xs : List Value} (h : w.ownsRow base e size v n xs) (hB : Below w.heap.size w w') : w'.ownsRow base e size v n xs := by
 rcases h with ⟨h0, ⟨h1, h2⟩ | ⟨g, cap, cur, h1, h2, h3, h4, h5, h6, h7⟩⟩
 · exact ⟨h0, Or.inl ⟨h1, h2⟩⟩
 · refine ⟨h0, Or.inr ⟨g, cap, cur, h1, h2, ?_, h4, h5, h6, h7⟩⟩
   have hg : g < w.heap.size := (Array.getElem?_eq_some_iff.1 h3).1
   rw [← h3]
   exact hB.block g hg
theorem take_two {xs : List ByteArray} {k : Nat} {a b : ByteArray} (h0 : xs[k * 2]? = some a) (h1 : xs[k * 2 + 1]? = some b) : xs.take ((k + 1) * 2) = xs.take (k * 2) ++ [a, b] := by
 rw [show (k + 1) * 2 = k * 2 + 1 + 1 by omega, List.take_add_one, List.take_add_one, h0, h1]
 simp
set_option maxRecDepth 100000 in
set_option maxHeartbeats 4000000 in
theorem readSpots_any (g cap : Nat) (xs : List ByteArray) (m : Nat) (hm : xs.length = m) (h4 : m ≤ 4000) (hz : ∀ x ∈ xs, x.size ≤ 4000) (w : World) (hS : TsIn w g xs) : Calls Tryd.prog 42 #[.slice (some ⟨g, 0, none⟩) m cap] w (SpsP xs w) := by
 have HS : Hid (TsIn w g xs) := hS
 have HZ : Hid (∀ x ∈ xs, x.size ≤ 4000) := hz
 have HM : Hid (xs.length = m) := hm
 have hmI : (m : Int) ≤ 4000 := by omega
 clear hS hz hm
 by_cases hodd : m % 2 = 0
 · have hoI : ((m : Int)).tmod 2 = 0 := by rw [Int.tmod_eq_emod_of_nonneg (by omega)]; omega
   go_enter Tryd.func42, Tryd.ntmps42
   go_wp2_with fail
   go_loopw [4, 5] (fun v i wr => ∃ (k : Nat) (M : List Zz2), k * 2 ≤ m ∧ M.length = k ∧ i = .int .i64 ((k * 2 : Nat) : Int) ∧ Hid (xs.take (k * 2) = (ptM M).map bA) ∧ Hid (ShM M) ∧ wr.ownsRow w.heap.size 41 2 v k (spM M) ∧ Below w.heap.size w wr) (fun _ i _ => m - (intOf i).toNat)
   case atStart => exact ⟨0, [], by omega, rfl, rfl, by show _ = _; simp [ptM], (fun t ht => by cases ht), World.ownsRow_nil _ _ _ _, Below.refl _ _⟩
   case round =>
     obtain ⟨k, M, hk, hMk, rfl, HX, HSh, hO, HB⟩ := hrel
     by_cases hkm : k * 2 < m
     · have hkI : ((k * 2 : Nat) : Int) < m := by omega
       obtain ⟨c, hc⟩ : ∃ c, k * 2 = c := ⟨_, rfl⟩
       rw [hc] at hkI
       simp only [hc]
       have hc1 : c + 1 < m := by omega
       obtain ⟨a, ha⟩ : ∃ a, xs[c]? = some a := ⟨xs[c]'(by rw [HM.out]; omega), List.getElem?_eq_getElem _⟩
       obtain ⟨b, hb⟩ : ∃ b, xs[c + 1]? = some b := ⟨xs[c + 1]'(by rw [HM.out]; omega), List.getElem?_eq_getElem _⟩
       have HAB : Hid (xs[c]? = some a ∧ xs[c + 1]? = some b) := ⟨ha, hb⟩
       have q0 := (HS.out.step HB).2 c a ha
       have hg := (HS.out.step HB).1
       have C1 := fun w => readShort_any a (by have := HZ.out a (List.mem_of_getElem? ha); omega) w
       have C2 := fun w => readShort_any b (by have := HZ.out b (List.mem_of_getElem? hb); omega) w
       have HNO : Hid (∀ j s, (j = c ∨ j = c + 1) → xs[j]? = some s → (∀ z : Int, shB z = true → s ≠ bA (Lib.itoa z)) → ∀ M : List Zz2, ShM M → xs ≠ (ptM M).map bA) := fun j s hj => by
         subst hc
         exact sps_no (by rw [HM.out]; omega) hj
       have HTk : Hid (xs.take ((k + 1) * 2) = xs.take (k * 2) ++ [a, b]) := by
         subst hc
         exact take_two ha hb
       clear ha hb
       go_upto_region 7 with fail
       go_wp2_with fail
       refine (C1 _).mono ?_
       rintro e w1 ⟨hB, ⟨x, hx, hxa, rfl⟩ | ⟨hno, rfl⟩⟩
       · have HXA : Hid (a = bA (Lib.itoa x)) := hxa
         replace hO := ownS_step hO hB
         replace HB := HB.trans (hB.mono HB.size)
         have q1 := (HS.out.step HB).2 (c + 1) b HAB.out.2
         clear hxa hB C1 q0
         go_wp2_with fail
         refine (C2 _).mono ?_
         rintro e w2 ⟨hB, ⟨y, hy, hyb, rfl⟩ | ⟨hno, rfl⟩⟩
         · have HYB : Hid (b = bA (Lib.itoa y)) := hyb
           replace hO := ownS_step hO hB
           replace HB := HB.trans (hB.mono HB.size)
           have hsz := HB.size
           obtain ⟨i0, hi, hz0, hz1, hz2⟩ := info_parts Tryd.infoSp
           have hkk : k ≤ 4000 := by omega
           clear hyb hB C2 q1
           go_wp2_with (at_builtin; refine wpList_append_own _ rfl _ _ 37 rfl w.heap.size 41 i0 (.agg #[.int .i64 0, .int .i64 0]) 2 16 Tryd.underlying37 hi hz0 hz1 hz2 rfl (by decide) _ _ _ rfl (hO.alloc _) ⟨w2.heap.size, 0, none⟩ 1 1 [.int .i64 x, .int .i64 y] rfl rfl (cell_two_new _ _ _ _) (one_cellS _ _) (by unfold maxLen; omega) (by omega) (by simp; omega) ?_)
           intro v' w3 ho' hg' _
           have HBN := (HB.alloc HB.size _).grown hg' (by simp; omega) (fun j hj => (hO.lt j hj).1)
           have HN : Hid (w3.ownsRow w.heap.size 41 2 v' (k + 1) (spM (M ++ [(x, y)]))) := by
             rw [spM_snoc]
             exact ho'
           have HX2 : Hid (xs.take ((k + 1) * 2) = (ptM (M ++ [(x, y)])).map bA) := by
             show _ = _
             rw [HTk.out, HX.out, HXA.out, HYB.out, ptM_snoc]
             simp
           have HSh2 : Hid (ShM (M ++ [(x, y)])) := fun t ht => by
             rcases List.mem_append.1 ht with ht | ht
             · exact HSh.out t ht
             · obtain rfl : t = (x, y) := by simpa using ht
               exact ⟨hx, hy⟩
           clear hg' ho' hO HB hi hz0 hz1 hz2 HX HTk HSh HAB HNO
           go_wp2
           go_roundw
           case rel => exact ⟨k + 1, M ++ [(x, y)], by omega, by simp [hMk], by subst hc; go_num, HX2, HSh2, HN.out, HBN⟩
           case measure => simp [intOf]; omega
         · have HR : Hid (∀ M : List Zz2, ShM M → xs ≠ (ptM M).map bA) := HNO.out (c + 1) b (Or.inr rfl) HAB.out.2 hno
           have HBF := HB.trans (hB.mono HB.size)
           clear HNO hno HX HTk HSh hO hB HB C2 q1
           go_wp2
           refine bodyPost_ret (v := .tuple #[.slice none 0 0, .bool false]) (by simp [results, Tryd.results42, go_sem]) rfl ?_
           exact ⟨HBF, Or.inr ⟨HR.out, rfl⟩⟩
       · have HR : Hid (∀ M : List Zz2, ShM M → xs ≠ (ptM M).map bA) := HNO.out c a (Or.inl rfl) HAB.out.1 hno
         have HBF := HB.trans (hB.mono HB.size)
         clear HNO hno HX HTk HSh hO hB HB C1 C2 q0
         go_wp2
         refine bodyPost_ret (v := .tuple #[.slice none 0 0, .bool false]) (by simp [results, Tryd.results42, go_sem]) rfl ?_
         exact ⟨HBF, Or.inr ⟨HR.out, rfl⟩⟩
     · have hkm2 : k * 2 = m := by omega
       have hkI : ¬ (((k * 2 : Nat) : Int) < m) := by omega
       have HX2 : Hid (xs = (ptM M).map bA) := by
         show _ = _
         rw [← HX.out, hkm2, ← HM.out, List.take_length]
       subst hMk
       clear HX
       go_wp2
       refine bodyPost_ret (v := .tuple #[u4, .bool true]) (by simp [results, Tryd.results42, go_sem]) rfl ?_
       exact ⟨HB, Or.inl ⟨M, _, HX2.out, HSh.out, rfl, hO⟩⟩
 · have hoI : ¬ (((m : Int)).tmod 2 = 0) := by rw [Int.tmod_eq_emod_of_nonneg (by omega)]; omega
   have HR : Hid (∀ M : List Zz2, ShM M → xs ≠ (ptM M).map bA) := fun M _ e => by
     have h1 := HM.out
     rw [e, List.length_map, ptM_len] at h1
     omega
   clear HS HZ HM
   go_enter Tryd.func42, Tryd.ntmps42
   go_wp2
   refine bodyPost_ret (v := .tuple #[.slice none 0 0, .bool false]) (by simp [results, Tryd.results42, go_sem]) rfl ?_
   exact ⟨Below.refl _ _, Or.inr ⟨HR.out, rfl⟩⟩
open Go.Shelf
def Tryd.lays146_ren : Go.Shelf.Ren := ⟨fun | 146 => 24 | 221 => 41 | 268 => 54 | 138 => 55 | 143 => 56 | 195 => 67 | 197 => 68 | 218 => 69 | 219 => 70 | 260 => 78 | 217 => 79 | 225 => 80 | 224 => 81 | 267 => 82 | 266 => 90 | 314 => 91 | n => n, fun | 9 => 9 | 31 => 46 | 3 => 3 | 4 => 4 | 0 => 0 | 105 => 107 | 21 => 21 | 5 => 5 | 46 => 85 | 119 => 131 | 139 => 134 | 138 => 133 | 146 => 135 | 51 => 79 | n => n, fun | 1 => 1 | 3 => 2 | 4 => 3 | n => n⟩
theorem Tryd.lays146 : Go.Proofs.Lays.n146 Tryd.prog Tryd.lays146_ren := {
 mixed := by kernel_rfl
 f138 := Tryd.func55.trans (congrArg some (by kernel_rfl))
 f143 := Tryd.func56.trans (congrArg some (by kernel_rfl))
 f146 := Tryd.func24.trans (congrArg some (by kernel_rfl))
 f195 := Tryd.func67.trans (congrArg some (by kernel_rfl))
 f197 := Tryd.func68.trans (congrArg some (by kernel_rfl))
 f217 := Tryd.func79.trans (congrArg some (by kernel_rfl))
 f218 := Tryd.func69.trans (congrArg some (by kernel_rfl))
 f219 := Tryd.func70.trans (congrArg some (by kernel_rfl))
 f221 := Tryd.func41.trans (congrArg some (by kernel_rfl))
 f224 := Tryd.func81.trans (congrArg some (by kernel_rfl))
 f225 := Tryd.func80.trans (congrArg some (by kernel_rfl))
 f260 := Tryd.func78.trans (congrArg some (by kernel_rfl))
 f266 := Tryd.func90.trans (congrArg some (by kernel_rfl))
 f267 := Tryd.func82.trans (congrArg some (by kernel_rfl))
 f268 := Tryd.func54.trans (congrArg some (by kernel_rfl))
 f314 := Tryd.func91.trans (congrArg some (by kernel_rfl))
 t0 := Tryd.underlying0
 a0 := Tryd.isAgg0
 z0 := Tryd.sizeOf0
 v0 := Tryd.zeroValue0
 t3 := Tryd.underlying3
 a3 := Tryd.isAgg3
 z3 := Tryd.sizeOf3
 v3 := Tryd.zeroValue3
 t4 := Tryd.underlying4
 a4 := Tryd.isAgg4
 z4 := Tryd.sizeOf4
 v4 := Tryd.zeroValue4
 t5 := Tryd.underlying5
 a5 := Tryd.isAgg5
 z5 := Tryd.sizeOf5
 v5 := Tryd.zeroValue5
 t9 := Tryd.underlying9
 a9 := Tryd.isAgg9
 z9 := Tryd.sizeOf9
 v9 := Tryd.zeroValue9
 t21 := Tryd.underlying21
 a21 := Tryd.isAgg21
 z21 := Tryd.sizeOf21
 v21 := Tryd.zeroValue21
 t31 := Tryd.underlying46
 a31 := Tryd.isAgg46
 z31 := Tryd.sizeOf46
 v31 := Tryd.zeroValue46
 t46 := Tryd.underlying85
 a46 := Tryd.isAgg85
 z46 := Tryd.sizeOf85
 v46 := Tryd.zeroValue85
 t51 := Tryd.underlying79
 a51 := Tryd.isAgg79
 z51 := Tryd.sizeOf79
 v51 := Tryd.zeroValue79
 t105 := Tryd.underlying107
 a105 := Tryd.isAgg107
 z105 := Tryd.sizeOf107
 v105 := Tryd.zeroValue107
 t119 := Tryd.underlying131
 a119 := Tryd.isAgg131
 z119 := Tryd.sizeOf131
 t138 := Tryd.underlying133
 a138 := Tryd.isAgg133
 z138 := Tryd.sizeOf133
 v138 := Tryd.zeroValue133
 t139 := Tryd.underlying134
 a139 := Tryd.isAgg134
 z139 := Tryd.sizeOf134
 v139 := Tryd.zeroValue134
 t146 := Tryd.underlying135
 a146 := Tryd.isAgg135
 z146 := Tryd.sizeOf135
 v146 := Tryd.zeroValue135
 g1 := by kernel_rfl
 g3 := by kernel_rfl
 g4 := by kernel_rfl }
open Go.RowKit Go.Lib in
theorem Tryd.strings_Split (s sep : ByteArray) (m : Int) (w : World) (hs : s.size < 4294967281) (hm : w.cell? ⟨1, 0, none⟩ = some (.int .i64 m)) (h1 : 1 ≤ sep.size) :
   Calls Tryd.prog 24 #[.string s, .string sep] w fun e w' =>
     e = .returned (.slice (some ⟨w.heap.size, 0, none⟩) (Lib.countB s sep + 1) (Lib.countB s sep + 1)) ∧ w' = w.alloc (.cells ((Lib.splitB sep 0 (Lib.countB s sep) s).map Value.string).toArray 9) := Any.strings_Split Tryd.lays146 (by kernel_rfl) s sep m w hs hm h1
def Tryd.laysM146_ren : Go.Shelf.Ren := ⟨fun | 146 => 24 | 221 => 41 | 268 => 54 | 138 => 55 | 143 => 56 | 195 => 67 | 197 => 68 | 218 => 69 | 219 => 70 | 260 => 78 | 217 => 79 | 225 => 80 | 224 => 81 | 267 => 82 | 266 => 90 | 314 => 91 | n => n, fun | 9 => 9 | 31 => 46 | 3 => 3 | 4 => 4 | 0 => 0 | 105 => 107 | 21 => 21 | 5 => 5 | 46 => 85 | 119 => 131 | 139 => 134 | 138 => 133 | 146 => 135 | 51 => 79 | n => n, fun | 1 => 1 | 3 => 2 | 4 => 3 | n => n⟩
theorem Tryd.laysM146 : Go.Proofs.LaysM.n146 Tryd.prog Tryd.laysM146_ren := {
 mixed := by kernel_rfl
 f138 := Tryd.func55.trans (congrArg some (by kernel_rfl))
 f143 := Tryd.func56.trans (congrArg some (by kernel_rfl))
 f146 := Tryd.func24.trans (congrArg some (by kernel_rfl))
 f195 := Tryd.func67.trans (congrArg some (by kernel_rfl))
 f197 := Tryd.func68.trans (congrArg some (by kernel_rfl))
 f217 := Tryd.func79.trans (congrArg some (by kernel_rfl))
 f218 := Tryd.func69.trans (congrArg some (by kernel_rfl))
 f219 := Tryd.func70.trans (congrArg some (by kernel_rfl))
 f221 := Tryd.func41.trans (congrArg some (by kernel_rfl))
 f224 := Tryd.func81.trans (congrArg some (by kernel_rfl))
 f225 := Tryd.func80.trans (congrArg some (by kernel_rfl))
 f260 := Tryd.func78.trans (congrArg some (by kernel_rfl))
 f266 := Tryd.func90.trans (congrArg some (by kernel_rfl))
 f267 := Tryd.func82.trans (congrArg some (by kernel_rfl))
 f268 := Tryd.func54.trans (congrArg some (by kernel_rfl))
 f314 := Tryd.func91.trans (congrArg some (by kernel_rfl))
 t0 := Tryd.underlying0
 a0 := Tryd.isAgg0
 z0 := Tryd.sizeOf0
 v0 := Tryd.zeroValue0
 t3 := Tryd.underlying3
 a3 := Tryd.isAgg3
 z3 := Tryd.sizeOf3
 v3 := Tryd.zeroValue3
 t4 := Tryd.underlying4
 a4 := Tryd.isAgg4
 z4 := Tryd.sizeOf4
 v4 := Tryd.zeroValue4
 t5 := Tryd.underlying5
 a5 := Tryd.isAgg5
 z5 := Tryd.sizeOf5
 v5 := Tryd.zeroValue5
 t9 := Tryd.underlying9
 a9 := Tryd.isAgg9
 z9 := Tryd.sizeOf9
 v9 := Tryd.zeroValue9
 t21 := Tryd.underlying21
 a21 := Tryd.isAgg21
 z21 := Tryd.sizeOf21
 v21 := Tryd.zeroValue21
 t31 := Tryd.underlying46
 a31 := Tryd.isAgg46
 z31 := Tryd.sizeOf46
 v31 := Tryd.zeroValue46
 t46 := Tryd.underlying85
 a46 := Tryd.isAgg85
 z46 := Tryd.sizeOf85
 v46 := Tryd.zeroValue85
 t51 := Tryd.underlying79
 a51 := Tryd.isAgg79
 z51 := Tryd.sizeOf79
 v51 := Tryd.zeroValue79
 t105 := Tryd.underlying107
 a105 := Tryd.isAgg107
 z105 := Tryd.sizeOf107
 v105 := Tryd.zeroValue107
 t119 := Tryd.underlying131
 a119 := Tryd.isAgg131
 z119 := Tryd.sizeOf131
 t138 := Tryd.underlying133
 a138 := Tryd.isAgg133
 z138 := Tryd.sizeOf133
 v138 := Tryd.zeroValue133
 t139 := Tryd.underlying134
 a139 := Tryd.isAgg134
 z139 := Tryd.sizeOf134
 v139 := Tryd.zeroValue134
 t146 := Tryd.underlying135
 a146 := Tryd.isAgg135
 z146 := Tryd.sizeOf135
 v146 := Tryd.zeroValue135
 g1 := by kernel_rfl
 g3 := by kernel_rfl
 g4 := by kernel_rfl
 i0 := by kernel_rfl
 i3 := by kernel_rfl
 i4 := by kernel_rfl
 i5 := by kernel_rfl
 i9 := by kernel_rfl
 i21 := by kernel_rfl
 i31 := by kernel_rfl
 i46 := by kernel_rfl
 i51 := by kernel_rfl
 i105 := by kernel_rfl
 i138 := by kernel_rfl
 i139 := by kernel_rfl
 i146 := by kernel_rfl
 m1 := by kernel_rfl
 s1_3 := fun w h => Go.Proofs.cell_of_shapedOpen_int (zero := #[.int .i64 0]) (t := 3) h (of_decide_eq_true (by kernel_rfl)) (by kernel_rfl) rfl (by kernel_rfl) (by kernel_rfl) Tryd.underlying3
 m3 := by kernel_rfl
 m4 := by kernel_rfl }
open Go.RowKit Go.Lib in
def MlP (w : World) : Prop := ∃ m : Int, w.cell? ⟨1, 0, none⟩ = some (.int .i64 m) ∧ 1 < w.heap.size
theorem MlP.step {w w' : World} (h : MlP w) (hB : Below w.heap.size w w') : MlP w' := by
 obtain ⟨m, h1, h2⟩ := h
 exact ⟨m, (hB.cell (p := ⟨1, 0, none⟩) h2).trans h1, Nat.lt_of_lt_of_le h2 hB.size⟩
theorem ownS_set {w : World} {base n : Nat} {e : TypeId} {size : Nat} {v : Value} {xs : List Value} (h : w.ownsRow base e size v n xs) {p : Addr} (hp : p.block < base) (u : Value) : (w.setCell p u).ownsRow base e size v n xs := by
 rcases h with ⟨h0, ⟨h1, h2⟩ | ⟨g, cap, cur, h1, h2, h3, h4, h5, h6, h7⟩⟩
 · exact ⟨h0, Or.inl ⟨h1, h2⟩⟩
 · refine ⟨h0, Or.inr ⟨g, cap, cur, h1, h2, ?_, h4, h5, h6, h7⟩⟩
   rw [heap_setCell_other _ _ _ _ (by omega)]
   exact h3
theorem ownS_base {w : World} {base b2 n : Nat} {e : TypeId} {size : Nat} {v : Value} {xs : List Value} (h : w.ownsRow base e size v n xs) (hb : b2 ≤ base) : w.ownsRow b2 e size v n xs := by
 rcases h with ⟨h0, ⟨h1, h2⟩ | ⟨g, cap, cur, h1, h2, h3⟩⟩
 · exact ⟨h0, Or.inl ⟨h1, h2⟩⟩
 · exact ⟨h0, Or.inr ⟨g, cap, cur, h1, Nat.le_trans hb h2, h3⟩⟩
theorem mem_join {sep : List UInt8} : ∀ {xs : List (List UInt8)} {x : List UInt8}, x ∈ xs → x.length ≤ (Lib.join xs sep).length
 | [], x, h => by cases h
 | [y], x, h => by
   obtain rfl : x = y := by simpa using h
   rw [Lib.join_one]
   exact Nat.le_refl _
 | y :: z :: r, x, h => by
   rw [join_two, List.length_append, List.length_append]
   rcases List.mem_cons.1 h with rfl | h
   · omega
   · have := mem_join (sep := sep) h
     omega
def SplP (s : ByteArray) (sep : List UInt8) (w : World) (e : Ending) (w' : World) : Prop :=
 Below w.heap.size w w' ∧ ∃ (xs : List ByteArray) (m g : Nat), e = .returned (.slice (some ⟨g, 0, none⟩) m m) ∧ xs.length = m ∧ TsIn w' g xs ∧ xs.map (·.data.toList) = Lib.split s.data.toList sep
theorem split_any (s : ByteArray) (sep : List UInt8) (hsep : sep ≠ []) (hs : s.size ≤ 100000) (w : World) (hM : MlP w) : Calls Tryd.prog 24 #[.string s, .string (bA sep)] w (SplP s sep w) := by
 obtain ⟨m, h1, h2⟩ := hM
 have hse : 1 ≤ (bA sep).size := by
   show 1 ≤ (bA sep).data.size
   simp only [bA, List.size_toArray]
   exact List.length_pos_iff.2 hsep
 refine (Tryd.strings_Split s (bA sep) m w (by omega) h1 hse).mono ?_
 rintro e w' ⟨rfl, rfl⟩
 have hB : Below w.heap.size w (w.alloc (.cells ((Lib.splitB (bA sep) 0 (Lib.countB s (bA sep)) s).map Value.string).toArray 9)) := (Below.refl _ w).alloc (Nat.le_refl _) _
 have X := Blk.new w ((Lib.splitB (bA sep) 0 (Lib.countB s (bA sep)) s).map Value.string) 9 rfl
 refine ⟨hB, Lib.splitB (bA sep) 0 (Lib.countB s (bA sep)) s, _, _, rfl, Lib.splitB_all (bA sep) hse 0 _ s rfl, ⟨X.lt, fun j x hx => X.c j (by rw [List.getElem?_map, hx]; rfl)⟩, ?_⟩
 rw [Lib.splitB_data, bA_list]
 unfold Lib.split Lib.countB
 rw [bA_list]
theorem bA_data (s : ByteArray) : bA s.data.toList = s := by
 apply ByteArray.ext
 simp [bA]
theorem map_bA {xs : List ByteArray} {ls : List (List UInt8)} (h : xs.map (·.data.toList) = ls) : xs = ls.map bA := by
 subst h
 rw [List.map_map]
 conv => lhs; rw [← List.map_id xs]
 exact List.map_congr_left fun x _ => (bA_data x).symm
def rgM (M : List Zz2) : List UInt8 := Lib.join (ptM M) [32]
theorem ptM_mem {M : List Zz2} {x : List UInt8} (h : x ∈ ptM M) : ∃ z, x = Lib.itoa z := by
 obtain ⟨t, _, ht⟩ := List.mem_flatMap.1 h
 simp only [List.mem_cons, List.not_mem_nil, or_false] at ht
 rcases ht with rfl | rfl
 · exact ⟨_, rfl⟩
 · exact ⟨_, rfl⟩
theorem ptM_ne {M : List Zz2} (h : M ≠ []) : ptM M ≠ [] := fun e => by
 have h1 := ptM_len M
 rw [e] at h1
 have h2 := List.length_pos_iff.2 h
 simp at h1
 omega
theorem split_rgM {M : List Zz2} (h : M ≠ []) : Lib.split (rgM M) [32] = ptM M := by
 refine split_joined (by simp) (ptM_ne h) fun x hx => free_byte ?_
 obtain ⟨z, rfl⟩ := ptM_mem hx
 exact itoa_blank z
def RrP (s : ByteArray) (w : World) (e : Ending) (w' : World) : Prop :=
 Below w.heap.size w w' ∧ ((∃ (M : List Zz2) (v : Value), M ≠ [] ∧ ShM M ∧ s = bA (rgM M) ∧ e = .returned (.tuple #[.agg #[v], .bool true]) ∧ w'.ownsRow w.heap.size 41 2 v M.length (spM M)) ∨ ((∀ M : List Zz2, M ≠ [] → ShM M → s ≠ bA (rgM M)) ∧ e = .returned (.tuple #[.agg #[.slice none 0 0], .bool false])))
set_option maxRecDepth 100000 in
set_option maxHeartbeats 4000000 in
theorem readRing_any (s : ByteArray) (hs : s.size ≤ 2000) (w : World) (hM : MlP w) : Calls Tryd.prog 25 #[.string s] w (RrP s w) := by
 have HB0 := (Below.refl _ w).alloc (Nat.le_refl _) (.cells #[.slice none 0 0] 39)
 have X0 := Blk.new w [.slice none 0 0] 39 rfl
 have CS := fun w h => split_any s [32] (by simp) (by omega) w h
 rw [show bA [32] = ⟨#[32]⟩ from rfl] at CS
 have HM : Hid (MlP w) := hM
 have HSz : Hid (s.size ≤ 2000) := hs
 clear hM hs
 go_enter Tryd.func25, Tryd.ntmps25
 go_upto_region 1 with fail
 revert X0
 rw [show ([.slice none 0 0] : List Value).toArray = #[.slice none 0 0] from rfl]
 intro X0
 generalize (w.alloc (.cells #[.slice none 0 0] 39)) = W0 at *
 have hlt := X0.lt
 go_wp2_with fail
 refine (CS _ (HM.out.step HB0)).mono ?_
 rintro e w1 ⟨hB, xs, m, g, rfl, hm, hT, hx⟩
 have HX : Hid (xs.map (·.data.toList) = Lib.split s.data.toList [32]) := hx
 have hm4 : m ≤ 4000 := by
   have h1 := congrArg List.length hx
   rw [List.length_map, hm] at h1
   have h2 := Lib.count_le s.data.toList [32]
   have h3 : (Lib.split s.data.toList [32]).length ≤ Lib.count s.data.toList [32] + 1 := by
     have h4 := Lib.splitB_length_le (bA [32]) 0 (Lib.count s.data.toList [32]) s
     have h5 := congrArg List.length (Lib.splitB_data (bA [32]) 0 (Lib.count s.data.toList [32]) s)
     rw [List.length_map, bA_list] at h5
     unfold Lib.split
     omega
   have h6 : s.data.toList.length = s.size := Array.length_toList
   have h7 := HSz.out
   omega
 have hz : ∀ x ∈ xs, x.size ≤ 4000 := fun x hxm => by
   have h1 : x.data.toList ∈ Lib.split s.data.toList [32] := by
     rw [← hx]
     exact List.mem_map_of_mem hxm
   have h2 := mem_join (sep := [32]) h1
   rw [join_split] at h2
   have h6 : s.data.toList.length = s.size := Array.length_toList
   have h7 : x.data.toList.length = x.size := Array.length_toList
   have h8 := HSz.out
   omega
 have CP := fun w h => readSpots_any g m xs m hm hm4 hz w h
 have X1 := X0.step hB
 have HB1 := HB0.trans (hB.mono HB0.size)
 have hsz1 := hB.size
 clear CS hm hz hx hB X0 HB0
 go_wp2_with fail
 refine (CP _ hT).mono ?_
 rintro e w2 ⟨hB, ⟨M, v, hxs, hsh, rfl, hO⟩ | ⟨hno, rfl⟩⟩
 · have X2 := X1.step hB
   have HB2 := HB1.trans (hB.mono HB1.size)
   obtain ⟨so, kk, cc, rfl⟩ : ∃ so kk cc, v = .slice so kk cc := by
     rcases hO.2 with ⟨h, _⟩ | ⟨_, _, _, h, _⟩
     · exact ⟨_, _, _, h⟩
     · exact ⟨_, _, _, h⟩
   have HSP : Hid (Lib.split s.data.toList [32] = ptM M) := by
     show _ = _
     rw [← HX.out, hxs, List.map_map]
     conv => rhs; rw [← List.map_id (ptM M)]
     exact List.map_congr_left fun x _ => bA_list x
   have HMN : Hid (M ≠ []) := fun e => by
     have h1 := HSP.out
     rw [e] at h1
     exact split_ne _ _ h1
   have HS : Hid (s = bA (rgM M)) := by
     show _ = _
     unfold rgM
     rw [← HSP.out, join_split, bA_data]
   have HSh : Hid (ShM M) := hsh
   have HBF := HB2.setCell (p := ⟨w.heap.size, 0, none⟩) (Nat.le_refl _) (.slice so kk cc)
   have HO2 := ownS_base (ownS_set hO (p := ⟨w.heap.size, 0, none⟩) (by show w.heap.size < _; omega) (.slice so kk cc)) (show w.heap.size ≤ w1.heap.size by omega)
   have X3 := X2.setI 0 (by simp) (.slice so kk cc)
   have y0 := X3.c 0 rfl; have yf := X3.f 0 rfl
   have x0 := X2.c 0 rfl; have xf := X2.f 0 rfl; have xl := X2.lt
   clear CP hO hB HB1 HB2 hT hxs hsh HX HSP X1 X2 X3
   go_wp2
   refine bodyPost_ret (v := .tuple #[.agg #[.slice so kk cc], .bool true]) (by simp [results, Tryd.results25, go_sem, y0]) rfl ?_
   exact ⟨HBF, Or.inl ⟨M, _, HMN.out, HSh.out, HS.out, rfl, HO2⟩⟩
 · have X2 := X1.step hB
   have HB2 := HB1.trans (hB.mono HB1.size)
   have HR : Hid (∀ M : List Zz2, M ≠ [] → ShM M → s ≠ bA (rgM M)) := fun M hM hs e => by
     refine hno M hs (map_bA ?_)
     rw [HX.out, e, bA_list]
     exact split_rgM hM
   have HBF := HB2.setCell (p := ⟨w.heap.size, 0, none⟩) (Nat.le_refl _) (.slice none 0 0)
   have X3 := X2.setI 0 (by simp) (.slice none 0 0)
   have y0 := X3.c 0 rfl
   have x0 := X2.c 0 rfl; have xf := X2.f 0 rfl; have xl := X2.lt
   clear CP hB HB1 HB2 hT HX X1 X2 X3 hno
   go_wp2
   refine bodyPost_ret (v := .tuple #[.agg #[.slice none 0 0], .bool false]) (by simp [results, Tryd.results25, go_sem, y0]) rfl ?_
   exact ⟨HBF, Or.inr ⟨HR.out, rfl⟩⟩
def lyM (Q : List (List Zz2)) : List UInt8 := Lib.join (Q.map rgM) [32, 47, 32]
def smM (Q : List (List Zz2)) : Nat := (Q.map List.length).sum
structure OkM (Q : List (List Zz2)) : Prop where
 ne : Q ≠ []
 rg : ∀ M ∈ Q, M ≠ [] ∧ ShM M
 n6 : Q.length ≤ 6
 n20 : smM Q ≤ 20
theorem ptM_inj : ∀ {M N : List Zz2}, ptM M = ptM N → M = N
 | [], [], _ => rfl
 | [], t :: N, h => by simp [ptM] at h
 | t :: M, [], h => by simp [ptM] at h
 | t :: M, u :: N, h => by
   simp only [ptM, List.flatMap_cons, List.cons_append, List.nil_append, List.cons.injEq] at h
   have h1 := itoa_inj h.1
   have h2 := itoa_inj h.2.1
   have ih := ptM_inj (M := M) (N := N) h.2.2
   rw [ih, Prod.ext h1 h2]
theorem rgM_inj {M N : List Zz2} (hM : M ≠ []) (hN : N ≠ []) (h : rgM M = rgM N) : M = N := ptM_inj (by rw [← split_rgM hM, ← split_rgM hN, h])
theorem rgM_slash {M : List Zz2} : (47 : UInt8) ∉ rgM M := by
 have key : ∀ xs : List (List UInt8), (∀ x ∈ xs, (47 : UInt8) ∉ x) → (47 : UInt8) ∉ Lib.join xs [32] := fun xs => by
   induction xs with
   | nil => intro _ h; cases h
   | cons x r ih =>
     intro h hm
     cases r with
     | nil =>
       rw [Lib.join_one] at hm
       exact h x List.mem_cons_self hm
     | cons y r =>
       rw [join_two] at hm
       rcases List.mem_append.1 hm with hm | hm
       · rcases List.mem_append.1 hm with hm | hm
         · exact h x List.mem_cons_self hm
         · simp at hm
       · exact ih (fun z hz => h z (List.mem_cons_of_mem _ hz)) hm
 refine key _ fun x hx => ?_
 obtain ⟨z, rfl⟩ := ptM_mem hx
 exact itoa_slash z
theorem split_lyM {Q : List (List Zz2)} (h : Q ≠ []) : Lib.split (lyM Q) [32, 47, 32] = Q.map rgM := by
 refine split_joined (by simp) (by simpa using h) fun x hx => ?_
 obtain ⟨M, _, rfl⟩ := List.mem_map.1 hx
 exact free_slash rgM_slash
theorem lyM_inj2 {Q R : List (List Zz2)} (hQ : Q ≠ []) (hR : R ≠ []) (gQ : ∀ M ∈ Q, M ≠ []) (gR : ∀ M ∈ R, M ≠ []) (h : lyM Q = lyM R) : Q = R := by
 have h1 : Q.map rgM = R.map rgM := by rw [← split_lyM hQ, ← split_lyM hR, h]
 have key : ∀ Q R : List (List Zz2), (∀ M ∈ Q, M ≠ []) → (∀ M ∈ R, M ≠ []) → Q.map rgM = R.map rgM → Q = R := fun Q => by
   induction Q with
   | nil => intro R _ _ h; cases R with
     | nil => rfl
     | cons _ _ => cases h
   | cons M Q ih =>
     intro R h1 h2 h
     cases R with
     | nil => cases h
     | cons N R =>
       simp only [List.map_cons, List.cons.injEq] at h
       rw [rgM_inj (h1 M List.mem_cons_self) (h2 N List.mem_cons_self) h.1, ih R (fun M hM => h1 M (List.mem_cons_of_mem _ hM)) (fun M hM => h2 M (List.mem_cons_of_mem _ hM)) h.2]
 exact key Q R gQ gR h1
theorem lyM_inj {Q R : List (List Zz2)} (hQ : OkM Q) (hR : OkM R) (h : lyM Q = lyM R) : Q = R := lyM_inj2 hQ.ne hR.ne (fun M hM => (hQ.rg M hM).1) (fun M hM => (hR.rg M hM).1) h
theorem join_ge {sep : List UInt8} (hs : 1 ≤ sep.length) : ∀ xs : List (List UInt8), xs.length ≤ (Lib.join xs sep).length + 1
 | [] => by simp
 | [x] => by simp
 | x :: y :: r => by
   have ih := join_ge hs (y :: r)
   rw [join_two, List.length_append, List.length_append]
   simp only [List.length_cons] at ih ⊢
   omega
theorem join_sum (sep : List UInt8) : ∀ xs : List (List UInt8), (Lib.join xs sep).length ≤ (xs.map fun x => x.length + sep.length).sum
 | [] => by simp [Lib.join_nil]
 | [x] => by rw [Lib.join_one]; simp
 | x :: y :: r => by
   have ih := join_sum sep (y :: r)
   rw [join_two, List.length_append, List.length_append, List.map_cons, List.sum_cons]
   omega
theorem rgM_le {M : List Zz2} (h : ShM M) : (rgM M).length ≤ M.length * 34 := by
 refine Nat.le_trans (join_sum _ _) ?_
 induction M with
 | nil => simp [ptM]
 | cons t M ih =>
   have h1 := itoa_len (of_decide_eq_true (h t List.mem_cons_self).1)
   have h2 := itoa_len (of_decide_eq_true (h t List.mem_cons_self).2)
   have h3 := ih fun u hu => h u (List.mem_cons_of_mem _ hu)
   simp only [ptM, List.flatMap_cons, List.map_append, List.sum_append, List.map_cons, List.map_nil, List.sum_cons, List.sum_nil, List.length_cons, List.length_nil] at h3 ⊢
   omega
theorem lyM_le {Q : List (List Zz2)} (h : OkM Q) : (lyM Q).length ≤ 700 := by
 have key : ∀ Q : List (List Zz2), (∀ M ∈ Q, ShM M) → ((Q.map rgM).map fun x => x.length + 3).sum ≤ smM Q * 34 + Q.length * 3 := fun Q => by
   induction Q with
   | nil => intro _; simp [smM]
   | cons M Q ih =>
     intro h
     have h1 := rgM_le (h M List.mem_cons_self)
     have h2 := ih fun N hN => h N (List.mem_cons_of_mem _ hN)
     simp only [smM, List.map_cons, List.sum_cons, List.length_cons] at h2 ⊢
     omega
 have h1 : (Lib.join (Q.map rgM) [32, 47, 32]).length ≤ ((Q.map rgM).map fun x => x.length + 3).sum := join_sum [32, 47, 32] (Q.map rgM)
 have h2 := key Q fun M hM => (h.rg M hM).2
 have h3 := h.n6
 have h4 := h.n20
 unfold lyM
 omega
theorem rgM_none {M : List Zz2} : ∀ b ∈ rgM M, b ≠ 110 := by
 have key : ∀ xs : List (List UInt8), (∀ x ∈ xs, (110 : UInt8) ∉ x) → (110 : UInt8) ∉ Lib.join xs [32] := fun xs => by
   induction xs with
   | nil => intro _ h; cases h
   | cons x r ih =>
     intro h hm
     cases r with
     | nil =>
       rw [Lib.join_one] at hm
       exact h x List.mem_cons_self hm
     | cons y r =>
       rw [join_two] at hm
       rcases List.mem_append.1 hm with hm | hm
       · rcases List.mem_append.1 hm with hm | hm
         · exact h x List.mem_cons_self hm
         · simp at hm
       · exact ih (fun z hz => h z (List.mem_cons_of_mem _ hz)) hm
 intro b hb e
 subst e
 refine key _ (fun x hx h => ?_) hb
 obtain ⟨z, rfl⟩ := ptM_mem hx
 rcases itoa_mem h with h | h
 · cases h
 · simp at h
theorem lyM_none {Q : List (List Zz2)} (h : OkM Q) : lyM Q ≠ [110, 111, 110, 101] := fun e => by
 have h1 := split_lyM h.ne
 rw [e, show Lib.split [110, 111, 110, 101] [32, 47, 32] = [[110, 111, 110, 101]] by decide] at h1
 obtain ⟨M, hM⟩ := List.exists_mem_of_ne_nil _ h.ne
 have h2 : rgM M ∈ Q.map rgM := List.mem_map_of_mem hM
 rw [← h1] at h2
 have h3 : rgM M = [110, 111, 110, 101] := by simpa using h2
 exact rgM_none (M := M) 110 (by rw [h3]; simp) rfl
abbrev Rd3 := Nat × Nat × List Zz2
def slD (d : Rd3) : Value := .slice (some ⟨d.1, 0, none⟩) d.2.2.length d.2.1
def spD (D : List Rd3) : List (List Zz2) := D.map fun d => d.2.2
def RsO (b : Nat) (w : World) (v : Value) (D : List Rd3) : Prop :=
 w.ownsRow b 39 1 v D.length (D.map slD) ∧ (∀ d ∈ D, w.ownsRow b 41 2 (slD d) d.2.2.length (spM d.2.2) ∧ v.ownBlock ≠ some d.1) ∧ (D.map (·.1)).Nodup
theorem RsO.nil (b : Nat) (w : World) : RsO b w (.slice none 0 0) [] := ⟨World.ownsRow_nil _ _ _ _, fun d h => (by cases h), List.nodup_nil⟩
theorem RsO.step {b : Nat} {w w' : World} {v : Value} {D : List Rd3} (h : RsO b w v D) (hB : Below w.heap.size w w') : RsO b w' v D :=
 ⟨ownS_step h.1 hB, fun d hd => ⟨ownS_step (h.2.1 d hd).1 hB, (h.2.1 d hd).2⟩, h.2.2⟩
theorem RsO.base {b b2 : Nat} {w : World} {v : Value} {D : List Rd3} (h : RsO b w v D) (hb : b2 ≤ b) : RsO b2 w v D :=
 ⟨ownS_base h.1 hb, fun d hd => ⟨ownS_base (h.2.1 d hd).1 hb, (h.2.1 d hd).2⟩, h.2.2⟩
theorem RsO.lt {b : Nat} {w : World} {v : Value} {D : List Rd3} (h : RsO b w v D) {d : Rd3} (hd : d ∈ D) : b ≤ d.1 ∧ d.1 < w.heap.size := (h.2.1 d hd).1.lt d.1 rfl
theorem RsO.add {b : Nat} {w w' : World} {v v' : Value} {D : List Rd3} {d : Rd3} (h : RsO b w v D) (ho : w'.ownsRow b 39 1 v' (D.length + 1) (D.map slD ++ [slD d])) (hg : w.grownBy w' v.ownBlock) (hb : v'.ownBlock = v.ownBlock ∨ v'.ownBlock = some w.heap.size)
   (hd : w.ownsRow b 41 2 (slD d) d.2.2.length (spM d.2.2)) (h1 : v.ownBlock ≠ some d.1) (h2 : ∀ x ∈ D, x.1 ≠ d.1) : RsO b w' v' (D ++ [d]) := by
 have key : ∀ x : Rd3, w.ownsRow b 41 2 (slD x) x.2.2.length (spM x.2.2) → v.ownBlock ≠ some x.1 → w'.ownsRow b 41 2 (slD x) x.2.2.length (spM x.2.2) ∧ v'.ownBlock ≠ some x.1 := fun x hx hn => by
   refine ⟨World.ownsRow.kept hx hg (Or.inr fun e => hn e.symm), ?_⟩
   rcases hb with e | e
   · rw [e]; exact hn
   · rw [e]
     intro e2
     have := (hx.lt x.1 rfl).2
     have := Option.some.inj e2
     omega
 refine ⟨by rw [List.map_append, List.length_append]; exact ho, fun x hx => ?_, ?_⟩
 · rcases List.mem_append.1 hx with hx | hx
   · exact key x (h.2.1 x hx).1 (h.2.1 x hx).2
   · obtain rfl : x = d := by simpa using hx
     exact key x hd h1
 · rw [List.map_append, List.nodup_append]
   refine ⟨h.2.2, by simp, fun a ha c hc e => ?_⟩
   obtain ⟨x, hx, rfl⟩ := List.mem_map.1 ha
   have hc' : c = d.1 := by simpa using hc
   exact h2 x hx (e.trans hc')
def dS (D : List Rd3) (i : Nat) : Option Addr × Nat := (some ⟨(D.getD i (0, 0, [])).1, 0, none⟩, (D.getD i (0, 0, [])).2.1)
def dL (D : List Rd3) (i : Nat) : Nat := (D.getD i (0, 0, [])).2.2.length
def dQ (D : List Rd3) (i : Nat) : Ps := fun j => (D.getD i (0, 0, [])).2.2.getD j (0, 0)
theorem spM_at : ∀ {M : List Zz2} {k : Nat} {t : Zz2}, M[k]? = some t → (spM M)[k * 2]? = some (.int .i64 t.1) ∧ (spM M)[k * 2 + 1]? = some (.int .i64 t.2)
 | [], k, t, h => by simp at h
 | u :: M, 0, t, h => by
   obtain rfl : u = t := by simpa using h
   simp [spM]
 | u :: M, k + 1, t, h => by
   have ih := spM_at (M := M) (k := k) (t := t) (by simpa using h)
   simp only [spM, List.flatMap_cons] at ih ⊢
   rw [show (k + 1) * 2 = k * 2 + 1 + 1 by omega]
   simpa using ih
theorem RsO.rgIn {b : Nat} {w : World} {ao : Option Addr} {n cap : Nat} {D : List Rd3} (h : RsO b w (.slice ao n cap) D) : n = D.length ∧ RgIn w ao n (dS D) (dL D) (dQ D) := by
 have hn : n = D.length := by
   rcases h.1.2 with ⟨e, h0⟩ | ⟨g, c, cur, e, _⟩
   · cases e
     exact h0.symm
   · cases e
     rfl
 refine ⟨hn, fun i hi => ?_⟩
 subst hn
 obtain ⟨d, hd⟩ : ∃ d, D[i]? = some d := ⟨D[i], List.getElem?_eq_getElem hi⟩
 have hdm := List.mem_of_getElem? hd
 have hg : D.getD i (0, 0, []) = d := by rw [List.getD_eq_getElem?_getD, hd]; rfl
 rcases h.1.2 with ⟨e, h0⟩ | ⟨g, c, cur, e, _⟩
 · rw [h0] at hi
   omega
 · cases e
   refine ⟨g, 0, rfl, (h.1.lt g rfl).2, ?_, fun j hj => ?_⟩
   · have h9 := h.1.cells rfl i (slD d) (by rw [List.getElem?_map, hd]; rfl)
     rw [Addr.add_lit] at h9
     unfold dS dL
     rw [hg]
     exact h9
   · unfold dS dQ
     unfold dL at hj
     rw [hg] at hj ⊢
     obtain ⟨t, ht⟩ : ∃ t, d.2.2[j]? = some t := ⟨d.2.2[j], List.getElem?_eq_getElem hj⟩
     have h8 := (h.2.1 d hdm).1
     have h7 := spM_at ht
     have c0 := h8.cells rfl (j * 2) _ h7.1
     have c1 := h8.cells rfl (j * 2 + 1) _ h7.2
     rw [Addr.add_lit] at c0 c1
     refine ⟨d.1, 0, rfl, (h8.lt d.1 rfl).2, ?_, ?_⟩
     · rw [List.getD_eq_getElem?_getD, ht]
       exact c0
     · rw [List.getD_eq_getElem?_getD, ht]
       rw [Nat.add_assoc]
       exact c1
theorem smR_dL (D : List Rd3) : ∀ c, c ≤ D.length → smR (dL D) c = smM (spD (D.take c))
 | 0, _ => by simp [smR, smM, spD]
 | c + 1, h => by
   obtain ⟨d, hd⟩ : ∃ d, D[c]? = some d := ⟨D[c], List.getElem?_eq_getElem h⟩
   have hg : D.getD c (0, 0, []) = d := by rw [List.getD_eq_getElem?_getD, hd]; rfl
   rw [smR, smR_dL D c (by omega), List.take_add_one, hd]
   unfold dL
   rw [hg]
   simp [smM, spD]
theorem smR_all (D : List Rd3) : smR (dL D) D.length = smM (spD D) := by rw [smR_dL D _ (Nat.le_refl _), List.take_length]
def RlP (s : ByteArray) (w : World) (e : Ending) (w' : World) : Prop :=
 Below w.heap.size w w' ∧ ((s = bA [110, 111, 110, 101] ∧ e = .returned (.tuple #[.slice none 0 0, .bool true])) ∨ (∃ (D : List Rd3) (v : Value), OkM (spD D) ∧ s = bA (lyM (spD D)) ∧ e = .returned (.tuple #[v, .bool true]) ∧ RsO w.heap.size w' v D) ∨ (s ≠ bA [110, 111, 110, 101] ∧ (∀ Q, OkM Q → s ≠ bA (lyM Q)) ∧ e = .returned (.tuple #[.slice none 0 0, .bool false])))
theorem bA_size2 (l : List UInt8) : (bA l).size = l.length := by simp [bA, ByteArray.size]
theorem rl_long {s : ByteArray} (h : ¬ s.size ≤ 2000) : s ≠ bA [110, 111, 110, 101] ∧ ∀ Q, OkM Q → s ≠ bA (lyM Q) := by
 refine ⟨fun e => ?_, fun Q hQ e => ?_⟩
 · rw [e, bA_size2] at h
   simp at h
 · rw [e, bA_size2] at h
   have := lyM_le hQ
   omega
theorem rl_no {s : ByteArray} {xs : List ByteArray} {x : ByteArray} (hx : xs.map (·.data.toList) = Lib.split s.data.toList [32, 47, 32]) (hm : x ∈ xs) (hno : ∀ M : List Zz2, M ≠ [] → ShM M → x ≠ bA (rgM M)) : ∀ Q, OkM Q → s ≠ bA (lyM Q) := fun Q hQ e => by
 have h1 : x.data.toList ∈ Lib.split s.data.toList [32, 47, 32] := by
   rw [← hx]
   exact List.mem_map_of_mem hm
 rw [e, bA_list, split_lyM hQ.ne] at h1
 obtain ⟨M, hM, h2⟩ := List.mem_map.1 h1
 have h3 := hQ.rg M hM
 exact hno M h3.1 h3.2 (by rw [h2, bA_data])
theorem Tryd.infoRg : (Tryd.prog.info? 39).map (fun i => (i.zero, i.size, i.bytes)) = some (some (.agg #[.slice none 0 0]), 1, 24) := by kernel_rfl
theorem one_cellR (so : Option Addr) (n c : Nat) : ∀ u ∈ [Value.slice so n c], u.oneCell' = true := by
 intro u hu
 obtain rfl : u = .slice so n c := by simpa using hu
 rfl
theorem bA_ne4 {s : ByteArray} (h : ¬ s = bA [110, 111, 110, 101]) : (s.toList == [110, 111, 110, 101]) = false := by
 rw [Bool.eq_false_iff]
 intro e
 rw [ByteArray.toList_eq, beq_iff_eq] at e
 exact h (by rw [← e, bA_data])
set_option maxRecDepth 100000 in
set_option maxHeartbeats 4000000 in
theorem readLayer_any (s : ByteArray) (hs : s.size ≤ 9223372036854775807) (w : World) (hM : MlP w) : Calls Tryd.prog 11 #[.string s] w (RlP s w) := by
 have HM : Hid (MlP w) := hM
 clear hM
 by_cases h2 : s.size ≤ 2000
 · have h2I : ¬ ((s.size : Int) > 2000) := by omega
   have HSz : Hid (s.size ≤ 2000) := h2
   by_cases h4 : s = bA [110, 111, 110, 101]
   · have HE : Hid (s = bA [110, 111, 110, 101]) := h4
     subst h4
     rw [show bA [110, 111, 110, 101] = ⟨#[110, 111, 110, 101]⟩ from rfl] at h2I ⊢
     go_enter Tryd.func11, Tryd.ntmps11
     go_wp2
     refine bodyPost_ret (v := .tuple #[.slice none 0 0, .bool true]) (by simp [results, Tryd.results11, go_sem]) rfl ?_
     exact ⟨Below.refl _ _, Or.inl ⟨rfl, rfl⟩⟩
   · have CS := fun w h => split_any s [32, 47, 32] (by simp) (by omega) w h
     rw [show bA [32, 47, 32] = ⟨#[32, 47, 32]⟩ from rfl] at CS
     have h4b := bA_ne4 h4
     have H4 : Hid (s ≠ bA [110, 111, 110, 101]) := h4
     clear h4 hs h2
     go_enter Tryd.func11, Tryd.ntmps11
     go_wp2_with fail
     refine (CS _ HM.out).mono ?_
     rintro e w1 ⟨HB, xs, m, g, rfl, hm, hT, hx⟩
     have HX : Hid (xs.map (·.data.toList) = Lib.split s.data.toList [32, 47, 32]) := hx
     have h6 : s.data.toList.length = s.size := Array.length_toList
     have hm4 : m ≤ 4000 := by
       have h1 := congrArg List.length hx
       rw [List.length_map, hm] at h1
       have h3 := join_ge (sep := [32, 47, 32]) (by simp) (Lib.split s.data.toList [32, 47, 32])
       rw [join_split] at h3
       have h7 := HSz.out
       omega
     have hz : ∀ x ∈ xs, x.size ≤ 2000 := fun x hxm => by
       have h1 : x.data.toList ∈ Lib.split s.data.toList [32, 47, 32] := by
         rw [← hx]
         exact List.mem_map_of_mem hxm
       have h2 := mem_join (sep := [32, 47, 32]) h1
       rw [join_split] at h2
       have h7 : x.data.toList.length = x.size := Array.length_toList
       have h8 := HSz.out
       omega
     have HZ : Hid (∀ x ∈ xs, x.size ≤ 2000) := hz
     have HT : Hid (TsIn w1 g xs) := hT
     have HMm : Hid (xs.length = m) := hm
     have hmI : (m : Int) ≤ 4000 := by omega
     clear CS hm hz hx hT h6
     go_wp2_with fail
     go_loopw [4, 17] (fun v i wr => ∃ (c : Nat) (D : List Rd3), c ≤ m ∧ D.length = c ∧ i = .int .i64 (c : Nat) ∧ Hid ((xs.take c).map (·.data.toList) = (spD D).map rgM) ∧ Hid (∀ d ∈ D, d.2.2 ≠ [] ∧ ShM d.2.2 ∧ d.2.2.length ≤ 4000) ∧ RsO w1.heap.size wr v D ∧ Below w1.heap.size w1 wr) (fun _ i _ => m - (intOf i).toNat)
     case atStart => exact ⟨0, [], by omega, rfl, rfl, by show _ = _; simp [spD], (fun d hd => by cases hd), RsO.nil _ _, Below.refl _ _⟩
     case round =>
       obtain ⟨c, D, hc, hDc, rfl, HXc, HDo, hRs, HBr⟩ := hrel
       have HBw := HB.trans (HBr.mono HB.size)
       by_cases hcm : c < m
       · have hcI : (c : Int) < m := by omega
         obtain ⟨x, hx⟩ : ∃ x, xs[c]? = some x := ⟨xs[c]'(by rw [HMm.out]; omega), List.getElem?_eq_getElem _⟩
         have HXx : Hid (xs[c]? = some x) := hx
         have q0 := (HT.out.step HBr).2 c x hx
         have hg := (HT.out.step HBr).1
         have C1 := readRing_any x (HZ.out x (List.mem_of_getElem? hx)) wr (HM.out.step HBw)
         have hxz := HZ.out x (List.mem_of_getElem? hx)
         have HNO : Hid ((∀ M : List Zz2, M ≠ [] → ShM M → x ≠ bA (rgM M)) → ∀ Q, OkM Q → s ≠ bA (lyM Q)) := rl_no HX.out (List.mem_of_getElem? hx)
         clear hx
         go_upto_region 9 with fail
         clear q0 hg
         go_wp2_with fail
         refine C1.mono ?_
         rintro e w2 ⟨hB, ⟨M, u, hMn, hsh, hxe, rfl, hO⟩ | ⟨hno, rfl⟩⟩
         · have hM0 := List.length_pos_iff.2 hMn
           obtain ⟨gu, cu, rfl, hgu⟩ : ∃ gu cu, u = .slice (some ⟨gu, 0, none⟩) M.length cu ∧ wr.heap.size ≤ gu := by
             rcases hO.2 with ⟨_, h0⟩ | ⟨gu, cu, _, h, h1, _⟩
             · omega
             · exact ⟨gu, cu, h, h1⟩
           have hgu2 := (hO.lt gu rfl).2
           have HXN : Hid ((xs.take (c + 1)).map (·.data.toList) = (spD (D ++ [(gu, cu, M)])).map rgM) := by
             show _ = _
             rw [List.take_add_one, HXx.out, List.map_append, HXc.out, hxe]
             simp [spD, bA_list]
           have HDN : Hid (∀ d ∈ D ++ [(gu, cu, M)], d.2.2 ≠ [] ∧ ShM d.2.2 ∧ d.2.2.length ≤ 4000) := fun d hd => by
             rcases List.mem_append.1 hd with hd | hd
             · exact HDo.out d hd
             · obtain rfl : d = (gu, cu, M) := by simpa using hd
               refine ⟨hMn, hsh, ?_⟩
               have h1 := join_ge (sep := [32]) (by simp) (ptM M)
               rw [ptM_len] at h1
               have h2 : (rgM M).length = x.size := by rw [hxe, bA_size2]
               unfold rgM at h2
               show M.length ≤ 4000
               omega
           have hnw : ∀ d ∈ D, d.1 ≠ gu := fun d hd => by
             have := (hRs.lt hd).2
             omega
           have hnv : u4.ownBlock ≠ some gu := fun e => by
             have := (hRs.1.lt gu e).2
             omega
           have hO2 := ownS_base hO (show w1.heap.size ≤ wr.heap.size from HBr.size)
           replace hRs := hRs.step hB
           replace HBr := HBr.trans (hB.mono HBr.size)
           replace HBw := HBw.trans (hB.mono HBw.size)
           have X := Blk.new w2 [.slice (some ⟨gu, 0, none⟩) M.length cu] 39 rfl
           have hBX : Below w2.heap.size w2 (w2.alloc (.cells #[.slice (some ⟨gu, 0, none⟩) M.length cu] 39)) := (Below.refl _ _).alloc (Nat.le_refl _) _
           replace hRs := hRs.step hBX
           replace hO2 := ownS_step hO2 hBX
           replace HBr := HBr.trans (hBX.mono HBr.size)
           replace HBw := HBw.trans (hBX.mono HBw.size)
           have hgu3 := Nat.lt_of_lt_of_le hgu2 hBX.size
           clear HXc HDo HXx HNO hxe hMn hsh hO hB C1 hgu2 hBX
           go_upto_region 10 with fail
           revert X
           rw [show ([.slice (some ⟨gu, 0, none⟩) M.length cu] : List Value).toArray = #[.slice (some ⟨gu, 0, none⟩) M.length cu] from rfl]
           intro X
           generalize (w2.alloc (.cells #[.slice (some ⟨gu, 0, none⟩) M.length cu] 39)) = W2 at *
           have x0 := X.c 0 rfl
           have hBY : Below W2.heap.size W2 (W2.alloc (.cells #[.slice (some ⟨gu, 0, none⟩) M.length cu] 39)) := (Below.refl _ _).alloc (Nat.le_refl _) _
           replace hRs := hRs.step hBY
           replace hO2 := ownS_step hO2 hBY
           have HBr2 := HBr.trans (hBY.mono HBr.size)
           have hsw := HBr.size
           obtain ⟨i0, hi, hz0, hz1, hz2⟩ := info_parts Tryd.infoRg
           go_wp2_with (at_builtin; refine wpList_append_own_at _ rfl _ _ 25 rfl w1.heap.size 39 i0 (.agg #[.slice none 0 0]) 1 24 Tryd.underlying25 hi hz0 hz1 hz2 rfl (by decide) _ _ _ rfl hRs.1 ⟨W2.heap.size, 0, none⟩ 1 1 [.slice (some ⟨gu, 0, none⟩) M.length cu] rfl rfl (cell_one_new _ _ _) (one_cellR _ _ _) (by unfold maxLen; omega) (by omega) (by simp; omega) ?_)
           intro v' w3 ho' hg' _ hb'
           have HRN : RsO w1.heap.size w3 v' (D ++ [(gu, cu, M)]) := by
             subst hDc
             exact hRs.add ho' hg' (by simpa using hb') hO2 hnv hnw
           have HBN := HBr2.grown hg' (by simp; omega) (fun k hk => (hRs.1.lt k hk).1)
           have hDN : (D ++ [(gu, cu, M)]).length = c + 1 := by simp [hDc]
           have HRH : Hid (RsO w1.heap.size w3 v' (D ++ [(gu, cu, M)])) := HRN
           clear hg' ho' hb' hRs hO2 HBr HBr2 HBw hi hz0 hz1 hz2 X x0 hBY hnv hnw HRN
           go_wp2
           go_roundw
           case rel => exact ⟨c + 1, D ++ [(gu, cu, M)], by omega, hDN, by go_num, HXN, HDN, HRH.out, HBN⟩
           case measure => simp [intOf]; omega
         · have HR := HNO.out hno
           have HRR : Hid (∀ Q, OkM Q → s ≠ bA (lyM Q)) := HR
           have HBF := (HBw.trans (hB.mono HBw.size)).alloc (HBw.trans (hB.mono HBw.size)).size (.cells #[.slice none 0 0] 39)
           clear HR HNO hno HXc HDo hRs hB C1
           go_wp2
           refine bodyPost_ret (v := .tuple #[.slice none 0 0, .bool false]) (by simp [results, Tryd.results11, go_sem]) rfl ?_
           exact ⟨HBF, Or.inr (Or.inr ⟨H4.out, HRR.out, rfl⟩)⟩
       · obtain rfl : c = m := by omega
         have hXs : xs.map (·.data.toList) = (spD D).map rgM := by
           have h1 := HXc.out
           rwa [← HMm.out, List.take_length] at h1
         have hsp : Lib.split s.data.toList [32, 47, 32] = (spD D).map rgM := by rw [← HX.out, hXs]
         have hDne : spD D ≠ [] := fun e => by
           rw [e] at hsp
           exact split_ne _ _ hsp
         have HS : Hid (s = bA (lyM (spD D))) := by
           show _ = _
           unfold lyM
           rw [← hsp, join_split, bA_data]
         have HDr : Hid (∀ M ∈ spD D, M ≠ [] ∧ ShM M) := fun M hM => by
           obtain ⟨d, hd, rfl⟩ := List.mem_map.1 hM
           exact ⟨(HDo.out d hd).1, (HDo.out d hd).2.1⟩
         have HDne : Hid (spD D ≠ []) := hDne
         obtain ⟨ao, n, cap, rfl⟩ : ∃ ao n cap, u4 = .slice ao n cap := by
           rcases hRs.1.2 with ⟨h, _⟩ | ⟨_, _, _, h, _⟩
           · exact ⟨_, _, _, h⟩
           · exact ⟨_, _, _, h⟩
         obtain ⟨hn, hRg⟩ := hRs.rgIn
         have hLd : ∀ i, i < n → dL D i ≤ 1048576 := fun i hi => by
           rw [hn] at hi
           have h1 := HDo.out D[i] (List.getElem_mem hi)
           unfold dL
           rw [List.getD_eq_getElem?_getD, List.getElem?_eq_getElem hi]
           show D[i].2.2.length ≤ 1048576
           omega
         have CF := fits_any ao n cap (dS D) (dL D) (dQ D) (by omega) hLd wr hRg
         have hdec : decide (n ≤ 6 ∧ smR (dL D) n ≤ 20) = decide (D.length ≤ 6 ∧ smM (spD D) ≤ 20) := by rw [hn, smR_all]
         rw [hdec] at CF
         have HRs : Hid (RsO w1.heap.size wr (.slice ao n cap) D) := hRs
         clear hLd hRg hdec hXs hsp hDne HXc HDo hRs HX HT HZ HMm hn hDc
         by_cases hf : D.length ≤ 6 ∧ smM (spD D) ≤ 20
         · rw [decide_eq_true hf] at CF
           have HO : Hid (OkM (spD D)) := ⟨HDne.out, HDr.out, by unfold spD; rw [List.length_map]; exact hf.1, hf.2⟩
           clear hf
           go_wp2_with fail
           refine CF.mono ?_
           rintro e w3 ⟨rfl, hB⟩
           have HBF := HBw.trans (hB.mono HBw.size)
           have HRF : Hid (RsO w.heap.size w3 (.slice ao n cap) D) := (HRs.out.step hB).base HB.size
           clear CF hB HRs
           go_wp2
           refine bodyPost_ret (v := .tuple #[.slice ao n cap, .bool true]) (by simp [results, Tryd.results11, go_sem]) rfl ?_
           exact ⟨HBF, Or.inr (Or.inl ⟨D, _, HO.out, HS.out, rfl, HRF.out⟩)⟩
         · rw [decide_eq_false hf] at CF
           have HRR : Hid (∀ Q, OkM Q → s ≠ bA (lyM Q)) := fun Q hQ e => by
             rw [HS.out] at e
             have h1 := lyM_inj2 HDne.out hQ.ne (fun M hM => (HDr.out M hM).1) (fun M hM => (hQ.rg M hM).1) (bA_inj e)
             refine hf ⟨?_, by rw [h1]; exact hQ.n20⟩
             have h2 := hQ.n6
             rw [← h1] at h2
             unfold spD at h2
             rwa [List.length_map] at h2
           clear hf
           go_wp2_with fail
           refine CF.mono ?_
           rintro e w3 ⟨rfl, hB⟩
           have HBF := HBw.trans (hB.mono HBw.size)
           clear CF hB HRs
           go_wp2
           refine bodyPost_ret (v := .tuple #[.slice none 0 0, .bool false]) (by simp [results, Tryd.results11, go_sem]) rfl ?_
           exact ⟨HBF, Or.inr (Or.inr ⟨H4.out, HRR.out, rfl⟩)⟩
 · have h2I : ((s.size : Int)) > 2000 := by omega
   have HR : Hid (s ≠ bA [110, 111, 110, 101] ∧ ∀ Q, OkM Q → s ≠ bA (lyM Q)) := rl_long h2
   go_enter Tryd.func11, Tryd.ntmps11
   go_wp2
   refine bodyPost_ret (v := .tuple #[.slice none 0 0, .bool false]) (by simp [results, Tryd.results11, go_sem]) rfl ?_
   exact ⟨Below.refl _ _, Or.inr (Or.inr ⟨HR.out.1, HR.out.2, rfl⟩)⟩
open Go.Shelf
theorem getD_tf {l : Array Bool} {i : Nat} (h : l.getD i true = false) : l.getD i false = false := by
 rw [Array.getD_eq_getD_getElem?] at *
 cases hh : l[i]? with
 | none => rw [hh] at h; cases h
 | some b => rw [hh] at h; exact h
theorem getD_set_neq {l : Array Bool} {i j : Nat} (h : i ≠ j) : (l.setIfInBounds i true).getD j false = l.getD j false := by
 simp [Array.getD_eq_getD_getElem?, Array.getElem?_setIfInBounds_ne h]
theorem getD_set_eq {l : Array Bool} {i : Nat} (h : l.getD i true = false) : (l.setIfInBounds i true).getD i false = true := by
 rw [Array.getD_eq_getD_getElem?] at *
 cases hh : l[i]? with
 | none => rw [hh] at h; cases h
 | some b => simp [(Array.getElem?_eq_some_iff.1 hh).1]
theorem replD (n j : Nat) : (Array.replicate n false).getD j false = false := by
 rw [Array.getD_eq_getD_getElem?, Array.getElem?_replicate]
 split <;> rfl
end Go.Proofs.YtjcpdihdlklapaaDoor
