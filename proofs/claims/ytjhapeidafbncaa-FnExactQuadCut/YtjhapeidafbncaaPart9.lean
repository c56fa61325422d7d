/- Part 9 of the walks that the proof leans on. -/
import Derived.Test.YtjhapeidafbncaaPart8
import Derived.Test.YtjhapeidafbncaaPart7
namespace Go.Proofs.Ytjhapeidafbncaa
open Go.RowKit
def VqlA (A off n cap c : Nat) (x y s : Int) (ko eo : Option Addr) (kn kc en ec : Nat) (a bb cc d : Int) (_B : Nat) : Nat → Value → World → Prop
 | 0, v, _ => v = .agg #[.int .i64 x, .int .i64 y, .int .i64 s, .slice ko kn kc, .slice eo en ec]
 | 1, v, _ => v = .slice (some ⟨A, off, none⟩) n cap
 | 2, v, _ => v = .int .i64 (c : Int)
 | 3, v, _ => v = .pointer (some ⟨A, off + c * 5, none⟩)
 | 4, v, _ => v = .pointer (some ⟨A, off + c * 5 + 1, none⟩)
 | 5, v, _ => v = Sg a bb cc d
 | 6, v, _ => v = .bool (hitB a bb cc d x y (x + s) (y + s))
 | 7, v, _ => v = .bool (!hitB a bb cc d x y (x + s) (y + s))
 | _, _, _ => True
theorem VqlA.mono {A off n cap c : Nat} {x y s : Int} {ko eo : Option Addr} {kn kc en ec : Nat} {a bb cc d : Int} {B j : Nat} {v : Value} {W W2 : World} (_hB : Below W.heap.size W W2) (h : VqlA A off n cap c x y s ko eo kn kc en ec a bb cc d B j v W) : VqlA A off n cap c x y s ko eo kn kc en ec a bb cc d B j v W2 := by
 unfold VqlA at *
 split <;> simp only at h <;> first | exact h | trivial
set_option maxRecDepth 100000 in
set_option maxHeartbeats 4000000 in
theorem qlA {Q : Exit → Act → World → Prop} {A off n cap c : Nat} {x y s : Int} {ko eo : Option Addr} {kn kc en ec : Nat} {a bb cc d : Int} {F : Nat} {w0 : World} {a0 : Act} {idq : Nat} {t0 t1 t2 t3 t4 t5 t6 t7 : TypeId} {q0 q1 q2 q3 q4 q5 q6 q7 : String}
   (hcn : c < n) (hn : n ≤ 1048576) (hq : Sq x y s) (ia : In6 a) (ibb : In6 bb) (icc : In6 cc) (id : In6 d) (h1 : a0.tmps[1]? = some (.slice (some ⟨A, off, none⟩) n cap)) (h2 : a0.tmps[2]? = some (.pointer (some ⟨F, 0, none⟩))) (h7 : a0.tmps[7]? = some (.int .i64 (c : Int))) (k0 : w0.cell? ⟨F, 0, none⟩ = some (.int .i64 x)) (l0 : (⟨F, 0, none⟩ : Addr).block < w0.heap.size) (k1 : w0.cell? ⟨F, 1, none⟩ = some (.int .i64 y)) (l1 : (⟨F, 1, none⟩ : Addr).block < w0.heap.size) (k2 : w0.cell? ⟨F, 2, none⟩ = some (.int .i64 s)) (l2 : (⟨F, 2, none⟩ : Addr).block < w0.heap.size) (k3 : w0.cell? ⟨F, 3, none⟩ = some (.slice ko kn kc)) (l3 : (⟨F, 3, none⟩ : Addr).block < w0.heap.size) (k4 : w0.cell? ⟨F, 4, none⟩ = some (.slice eo en ec)) (l4 : (⟨F, 4, none⟩ : Addr).block < w0.heap.size) (k5 : w0.cell? ⟨A, off + c * 5 + 1, none⟩ = some (.int .i64 a)) (l5 : (⟨A, off + c * 5 + 1, none⟩ : Addr).block < w0.heap.size) (k6 : w0.cell? ⟨A, off + c * 5 + 1 + 1, none⟩ = some (.int .i64 bb)) (l6 : (⟨A, off + c * 5 + 1 + 1, none⟩ : Addr).block < w0.heap.size) (k7 : w0.cell? ⟨A, off + c * 5 + 1 + 2, none⟩ = some (.int .i64 cc)) (l7 : (⟨A, off + c * 5 + 1 + 2, none⟩ : Addr).block < w0.heap.size) (k8 : w0.cell? ⟨A, off + c * 5 + 1 + 3, none⟩ = some (.int .i64 d)) (l8 : (⟨A, off + c * 5 + 1 + 3, none⟩ : Addr).block < w0.heap.size) (hz : a0.tmps.size = 63)
   (hQ : ∀ aq W, aq.tmps.size = a0.tmps.size → aq.defers = a0.defers → (∀ e, e ∉ ([30, 31, 32, 33, 34, 35, 36, 37] : List Nat) → aq.tmps[e]? = a0.tmps[e]?) → VqlA A off n cap c x y s ko eo kn kc en ec a bb cc d w0.heap.size 7 (aq.tmps.getD 37 undef) W → Below w0.heap.size w0 W → Q .normal aq W) :
   (Code.region idq #[{ dst := some 30, op := Op.load 64 (Operand.tmp 2), type := t0, pos := q0, after := #[], guard := none },
   { dst := some 31, op := Op.move (Operand.tmp 1), type := t1, pos := q1, after := #[], guard := none },
   { dst := some 32, op := Op.move (Operand.tmp 7), type := t2, pos := q2, after := #[], guard := none },
   { dst := some 33, op := Op.indexAddr 31 (Operand.tmp 31) (Operand.tmp 32), type := t3, pos := q3, after := #[{ on := 1, ground := Ground.data }, { on := 2, ground := Ground.data }], guard := none },
   { dst := some 34, op := Op.fieldAddr 59 (Operand.tmp 33) 1, type := t4, pos := q4, after := #[{ on := 3, ground := Ground.data }], guard := none },
   { dst := some 35, op := Op.load 40 (Operand.tmp 34), type := t5, pos := q5, after := #[{ on := 4, ground := Ground.data }], guard := none },
   { dst := some 36, op := Op.call { callee := Callee.value (Operand.func 62), args := #[Operand.tmp 30, Operand.tmp 35], argTypes := #[64, 40] }, type := t6, pos := q6, after := #[{ on := 0, ground := Ground.data }, { on := 5, ground := Ground.data }], guard := none },
   { dst := some 37, op := Op.unOp UnOp.not 4 (Operand.tmp 36), type := t7, pos := q7, after := #[{ on := 6, ground := Ground.data }], guard := none }] true).wp Try.prog Q a0 w0 := by
 have hS : distS [some 30, some 31, some 32, some 33, some 34, some 35, some 36, some 37] = true := rfl
 refine wp_region_q (by kernel_rfl) w0.heap.size [some 30, some 31, some 32, some 33, some 34, some 35, some 36, some 37] (VqlA A off n cap c x y s ko eo kn kc en ec a bb cc d w0.heap.size) rfl ?_ ?_
 · intro Q lq aq W iq oq hJ hl ho hall
   have hJ2 := hJ
   obtain ⟨z1, z2, z3, z4, z5, z6, z7⟩ := hJ
   have g1 : aq.tmps.getD 1 undef = .slice (some ⟨A, off, none⟩) n cap := by rw [Array.getD_eq_getD_getElem?, z4 1 (by decide), h1]; rfl
   have g2 : aq.tmps.getD 2 undef = .pointer (some ⟨F, 0, none⟩) := by rw [Array.getD_eq_getD_getElem?, z4 2 (by decide), h2]; rfl
   have g7 : aq.tmps.getD 7 undef = .int .i64 (c : Int) := by rw [Array.getD_eq_getD_getElem?, z4 7 (by decide), h7]; rfl
   have c0 : W.cell? ⟨F, 0, none⟩ = some (.int .i64 x) := (z5.cell l0).trans k0
   have c1 : W.cell? ⟨F, 1, none⟩ = some (.int .i64 y) := (z5.cell l1).trans k1
   have c2 : W.cell? ⟨F, 2, none⟩ = some (.int .i64 s) := (z5.cell l2).trans k2
   have c3 : W.cell? ⟨F, 3, none⟩ = some (.slice ko kn kc) := (z5.cell l3).trans k3
   have c4 : W.cell? ⟨F, 4, none⟩ = some (.slice eo en ec) := (z5.cell l4).trans k4
   have c5 : W.cell? ⟨A, off + c * 5 + 1, none⟩ = some (.int .i64 a) := (z5.cell l5).trans k5
   have c6 : W.cell? ⟨A, off + c * 5 + 1 + 1, none⟩ = some (.int .i64 bb) := (z5.cell l6).trans k6
   have c7 : W.cell? ⟨A, off + c * 5 + 1 + 2, none⟩ = some (.int .i64 cc) := (z5.cell l7).trans k7
   have c8 : W.cell? ⟨A, off + c * 5 + 1 + 3, none⟩ = some (.int .i64 d) := (z5.cell l8).trans k8
   match iq, ho with
   | 0, ho =>
     cases ho
     refine wpOp_of rfl rfl ?_
     have hK := fun (v : Value) (W2 : World) hW hT hv => hJ2.put hS 0 30 rfl (by omega) (W' := W2) hW hT v hv
     clear ho hall hl hQ
     generalize InvQ _ _ _ w0 a0 (lq.setIfInBounds 0 true) = K at hK ⊢
     clear hJ2 hS z1 z2 z3 z4 z6 z7
     go_simp
     exact hK _ _ z5 (fun _ _ h => h) rfl
   | 1, ho =>
     cases ho
     refine wpOp_of rfl rfl ?_
     have hK := fun (v : Value) (W2 : World) hW hT hv => hJ2.put hS 1 31 rfl (by omega) (W' := W2) hW hT v hv
     clear ho hall hl hQ
     generalize InvQ _ _ _ w0 a0 (lq.setIfInBounds 1 true) = K at hK ⊢
     clear hJ2 hS z1 z2 z3 z4 z6 z7
     go_simp
     exact hK _ _ z5 (fun _ _ h => h) rfl
   | 2, ho =>
     cases ho
     refine wpOp_of rfl rfl ?_
     have hK := fun (v : Value) (W2 : World) hW hT hv => hJ2.put hS 2 32 rfl (by omega) (W' := W2) hW hT v hv
     clear ho hall hl hQ
     generalize InvQ _ _ _ w0 a0 (lq.setIfInBounds 2 true) = K at hK ⊢
     clear hJ2 hS z1 z2 z3 z4 z6 z7
     go_simp
     exact hK _ _ z5 (fun _ _ h => h) rfl
   | 3, ho =>
     cases ho
     refine wpOp_of rfl rfl ?_
     have f1 : (aq.tmps.getD 31 undef) = .slice (some ⟨A, off, none⟩) n cap := z6 1 31 (hall { on := 1, ground := Ground.data } (by simp) rfl) rfl
     have f2 : (aq.tmps.getD 32 undef) = .int .i64 (c : Int) := z6 2 32 (hall { on := 2, ground := Ground.data } (by simp) rfl) rfl
     have hcI : (c : Int) < n := by omega
     have hnI : (n : Int) ≤ 1048576 := by omega
     have hK := fun (v : Value) (W2 : World) hW hT hv => hJ2.put hS 3 33 rfl (by omega) (W' := W2) hW hT v hv
     clear ho hall hl hQ
     generalize InvQ _ _ _ w0 a0 (lq.setIfInBounds 3 true) = K at hK ⊢
     clear hJ2 hS z1 z2 z3 z4 z6 z7
     go_simp
     exact hK _ _ z5 (fun _ _ h => h) rfl
   | 4, ho =>
     cases ho
     refine wpOp_of rfl rfl ?_
     have f3 : (aq.tmps.getD 33 undef) = .pointer (some ⟨A, off + c * 5, none⟩) := z6 3 33 (hall { on := 3, ground := Ground.data } (by simp) rfl) rfl
     have hK := fun (v : Value) (W2 : World) hW hT hv => hJ2.put hS 4 34 rfl (by omega) (W' := W2) hW hT v hv
     clear ho hall hl hQ
     generalize InvQ _ _ _ w0 a0 (lq.setIfInBounds 4 true) = K at hK ⊢
     clear hJ2 hS z1 z2 z3 z4 z6 z7
     go_simp
     exact hK _ _ z5 (fun _ _ h => h) rfl
   | 5, ho =>
     cases ho
     refine wpOp_of rfl rfl ?_
     have f4 : (aq.tmps.getD 34 undef) = .pointer (some ⟨A, off + c * 5 + 1, none⟩) := z6 4 34 (hall { on := 4, ground := Ground.data } (by simp) rfl) rfl
     have hK := fun (v : Value) (W2 : World) hW hT hv => hJ2.put hS 5 35 rfl (by omega) (W' := W2) hW hT v hv
     clear ho hall hl hQ
     generalize InvQ _ _ _ w0 a0 (lq.setIfInBounds 5 true) = K at hK ⊢
     clear hJ2 hS z1 z2 z3 z4 z6 z7
     go_simp
     exact hK _ _ z5 (fun _ _ h => h) rfl
   | 6, ho =>
     cases ho
     refine wpOp_of rfl rfl ?_
     have f0 : (aq.tmps.getD 30 undef) = .agg #[.int .i64 x, .int .i64 y, .int .i64 s, .slice ko kn kc, .slice eo en ec] := z6 0 30 (hall { on := 0, ground := Ground.data } (by simp) rfl) rfl
     have f5 : (aq.tmps.getD 35 undef) = Sg a bb cc d := z6 5 35 (hall { on := 5, ground := Ground.data } (by simp) rfl) rfl
     have hK := fun (v : Value) (W2 : World) hW hT hv => hJ2.put hS 6 36 rfl (by omega) (W' := W2) hW hT v hv
     clear ho hall hl hQ
     generalize InvQ _ _ _ w0 a0 (lq.setIfInBounds 6 true) = K at hK ⊢
     clear hJ2 hS z1 z2 z3 z4 z6 z7
     go_simp
     refine (l13Meets_any x y s ko eo kn kc en ec a bb cc d hq ia ibb icc id W).mono ?_
     rintro e v1 ⟨rfl, hBv⟩
     exact hK _ _ (z5.trans (hBv.mono z5.size)) (fun j v h => h.mono hBv) rfl
   | 7, ho =>
     cases ho
     refine wpOp_of rfl rfl ?_
     have f6 : (aq.tmps.getD 36 undef) = .bool (hitB a bb cc d x y (x + s) (y + s)) := z6 6 36 (hall { on := 6, ground := Ground.data } (by simp) rfl) rfl
     have hK := fun (v : Value) (W2 : World) hW hT hv => hJ2.put hS 7 37 rfl (by omega) (W' := W2) hW hT v hv
     clear ho hall hl hQ
     generalize InvQ _ _ _ w0 a0 (lq.setIfInBounds 7 true) = K at hK ⊢
     clear hJ2 hS z1 z2 z3 z4 z6 z7
     go_simp
     exact hK _ _ z5 (fun _ _ h => h) rfl
   | iq + 8, ho => simp at ho
 · intro lq aq W hJ hr
   obtain ⟨z1, z2, z3, z4, z5, z6, z7⟩ := hJ
   have hl := listed_of hr [0, 1, 2, 3, 4, 5, 6, 7] [] (by simp) (by kernel_rfl) (by rw [z1]; decide)
   exact hQ aq W z2 z3 (fun e he => z4 e (by simpa using he)) (z6 7 37 (hl 7 (by simp)) rfl) z5
def VqlB (F k_ : Nat) (eo : Option Addr) (en ec : Nat) (_B : Nat) : Nat → Value → World → Prop
 | 0, v, _ => v = .int .i64 (k_ : Int)
 | 1, v, _ => v = .pointer (some ⟨F, 4, none⟩)
 | 2, v, _ => v = .slice eo en ec
 | 3, v, _ => v = .int .i64 (en : Int)
 | 4, v, _ => v = .bool true
 | 5, v, _ => v = .bool true
 | 6, v, _ => v = undef
 | 7, v, _ => v = undef
 | 8, v, _ => v = undef
 | 9, v, _ => v = undef
 | 10, v, _ => v = undef
 | 11, v, _ => v = undef
 | 12, v, _ => v = undef
 | 13, v, _ => v = undef
 | 14, v, _ => v = undef
 | 15, v, _ => v = undef
 | 16, v, _ => v = undef
 | 17, v, _ => v = .bool true
 | _, _, _ => True
set_option maxRecDepth 100000 in
set_option maxHeartbeats 4000000 in
theorem qlB {Q : Exit → Act → World → Prop} {F k_ : Nat} {eo : Option Addr} {en ec : Nat}  {w0 : World} {a0 : Act} {idq : Nat} {t0 t1 t2 t3 t4 t5 t6 t7 t8 t9 t10 t11 t12 t13 t14 t15 t16 t17 : TypeId} {q0 q1 q2 q3 q4 q5 q6 q7 q8 q9 q10 q11 q12 q13 q14 q15 q16 q17 : String}
   (hk : en ≤ k_) (h2 : a0.tmps[2]? = some (.pointer (some ⟨F, 0, none⟩))) (h6 : a0.tmps[6]? = some (.int .i64 (k_ : Int))) (k0 : w0.cell? ⟨F, 4, none⟩ = some (.slice eo en ec)) (l0 : (⟨F, 4, none⟩ : Addr).block < w0.heap.size) (hz : a0.tmps.size = 63)
   (hQ : ∀ aq W, aq.tmps.size = a0.tmps.size → aq.defers = a0.defers → (∀ e, e ∉ ([38, 39, 40, 41, 42, 43, 44, 45, 46, 47, 48, 49, 50, 51, 52, 53, 54, 55] : List Nat) → aq.tmps[e]? = a0.tmps[e]?) → VqlB F k_ eo en ec w0.heap.size 17 (aq.tmps.getD 55 undef) W → Below w0.heap.size w0 W → Q .normal aq W) :
   (Code.region idq #[{ dst := some 38, op := Op.move (Operand.tmp 6), type := t0, pos := q0, after := #[], guard := none },
   { dst := some 39, op := Op.fieldAddr 64 (Operand.tmp 2) 4, type := t1, pos := q1, after := #[], guard := none },
   { dst := some 40, op := Op.load 53 (Operand.tmp 39), type := t2, pos := q2, after := #[{ on := 1, ground := Ground.data }], guard := none },
   { dst := some 41, op := Op.call { callee := Callee.builtin Builtin.len, args := #[Operand.tmp 40], argTypes := #[53] }, type := t3, pos := q3, after := #[{ on := 2, ground := Ground.data }], guard := none },
   { dst := some 42, op := Op.binOp BinOp.geq 3 (Operand.tmp 38) (Operand.tmp 41) 3, type := t4, pos := q4, after := #[{ on := 0, ground := Ground.data }, { on := 3, ground := Ground.data }], guard := none },
   { dst := some 43, op := Op.move (Operand.tmp 42), type := t5, pos := q5, after := #[{ on := 4, ground := Ground.data }], guard := none },
   { dst := some 44, op := Op.fieldAddr 64 (Operand.tmp 2) 4, type := t6, pos := q6, after := #[{ on := 5, ground := Ground.guard }], guard := some (5, false) },
   { dst := some 45, op := Op.load 53 (Operand.tmp 44), type := t7, pos := q7, after := #[{ on := 6, ground := Ground.data }, { on := 5, ground := Ground.guard }], guard := some (5, false) },
   { dst := some 46, op := Op.move (Operand.tmp 6), type := t8, pos := q8, after := #[{ on := 5, ground := Ground.guard }], guard := some (5, false) },
   { dst := some 47, op := Op.indexAddr 53 (Operand.tmp 45) (Operand.tmp 46), type := t9, pos := q9, after := #[{ on := 7, ground := Ground.data }, { on := 8, ground := Ground.data }, { on := 5, ground := Ground.guard }], guard := some (5, false) },
   { dst := some 48, op := Op.load 2 (Operand.tmp 47), type := t10, pos := q10, after := #[{ on := 9, ground := Ground.data }, { on := 5, ground := Ground.guard }], guard := some (5, false) },
   { dst := some 49, op := Op.move (Operand.tmp 1), type := t11, pos := q11, after := #[{ on := 5, ground := Ground.guard }], guard := some (5, false) },
   { dst := some 50, op := Op.move (Operand.tmp 7), type := t12, pos := q12, after := #[{ on := 5, ground := Ground.guard }], guard := some (5, false) },
   { dst := some 51, op := Op.indexAddr 31 (Operand.tmp 49) (Operand.tmp 50), type := t13, pos := q13, after := #[{ on := 11, ground := Ground.data }, { on := 12, ground := Ground.data }, { on := 5, ground := Ground.guard }], guard := some (5, false) },
   { dst := some 52, op := Op.fieldAddr 59 (Operand.tmp 51) 0, type := t14, pos := q14, after := #[{ on := 13, ground := Ground.data }, { on := 5, ground := Ground.guard }], guard := some (5, false) },
   { dst := some 53, op := Op.load 2 (Operand.tmp 52), type := t15, pos := q15, after := #[{ on := 14, ground := Ground.data }, { on := 5, ground := Ground.guard }], guard := some (5, false) },
   { dst := some 54, op := Op.binOp BinOp.neq 2 (Operand.tmp 48) (Operand.tmp 53) 2, type := t16, pos := q16, after := #[{ on := 10, ground := Ground.data }, { on := 15, ground := Ground.data }, { on := 5, ground := Ground.guard }], guard := some (5, false) },
   { dst := some 55, op := Op.pick (Operand.tmp 43) (Operand.const (Value.bool true)) (Operand.tmp 54), type := t17, pos := q17, after := #[{ on := 5, ground := Ground.data }, { on := 16, ground := Ground.data }], guard := none }] true).wp Try.prog Q a0 w0 := by
 have hS : distS [some 38, some 39, some 40, some 41, some 42, some 43, some 44, some 45, some 46, some 47, some 48, some 49, some 50, some 51, some 52, some 53, some 54, some 55] = true := rfl
 refine wp_region_q (by kernel_rfl) w0.heap.size [some 38, some 39, some 40, some 41, some 42, some 43, some 44, some 45, some 46, some 47, some 48, some 49, some 50, some 51, some 52, some 53, some 54, some 55] (VqlB F k_ eo en ec w0.heap.size) rfl ?_ ?_
 · intro Q lq aq W iq oq hJ hl ho hall
   have hJ2 := hJ
   obtain ⟨z1, z2, z3, z4, z5, z6, z7⟩ := hJ
   have g2 : aq.tmps.getD 2 undef = .pointer (some ⟨F, 0, none⟩) := by rw [Array.getD_eq_getD_getElem?, z4 2 (by decide), h2]; rfl
   have g6 : aq.tmps.getD 6 undef = .int .i64 (k_ : Int) := by rw [Array.getD_eq_getD_getElem?, z4 6 (by decide), h6]; rfl
   have c0 : W.cell? ⟨F, 4, none⟩ = some (.slice eo en ec) := (z5.cell l0).trans k0
   match iq, ho with
   | 0, ho =>
     cases ho
     refine wpOp_of rfl rfl ?_
     have hK := fun (v : Value) (W2 : World) hW hT hv => hJ2.put hS 0 38 rfl (by omega) (W' := W2) hW hT v hv
     clear ho hall hl hQ
     generalize InvQ _ _ _ w0 a0 (lq.setIfInBounds 0 true) = K at hK ⊢
     clear hJ2 hS z1 z2 z3 z4 z6 z7
     go_simp
     exact hK _ _ z5 (fun _ _ h => h) rfl
   | 1, ho =>
     cases ho
     refine wpOp_of rfl rfl ?_
     have hK := fun (v : Value) (W2 : World) hW hT hv => hJ2.put hS 1 39 rfl (by omega) (W' := W2) hW hT v hv
     clear ho hall hl hQ
     generalize InvQ _ _ _ w0 a0 (lq.setIfInBounds 1 true) = K at hK ⊢
     clear hJ2 hS z1 z2 z3 z4 z6 z7
     go_simp
     exact hK _ _ z5 (fun _ _ h => h) rfl
   | 2, ho =>
     cases ho
     refine wpOp_of rfl rfl ?_
     have f1 : (aq.tmps.getD 39 undef) = .pointer (some ⟨F, 4, none⟩) := z6 1 39 (hall { on := 1, ground := Ground.data } (by simp) rfl) rfl
     have hK := fun (v : Value) (W2 : World) hW hT hv => hJ2.put hS 2 40 rfl (by omega) (W' := W2) hW hT v hv
     clear ho hall hl hQ
     generalize InvQ _ _ _ w0 a0 (lq.setIfInBounds 2 true) = K at hK ⊢
     clear hJ2 hS z1 z2 z3 z4 z6 z7
     go_simp
     exact hK _ _ z5 (fun _ _ h => h) rfl
   | 3, ho =>
     cases ho
     refine wpOp_of rfl rfl ?_
     have f2 : (aq.tmps.getD 40 undef) = .slice eo en ec := z6 2 40 (hall { on := 2, ground := Ground.data } (by simp) rfl) rfl
     have hK := fun (v : Value) (W2 : World) hW hT hv => hJ2.put hS 3 41 rfl (by omega) (W' := W2) hW hT v hv
     clear ho hall hl hQ
     generalize InvQ _ _ _ w0 a0 (lq.setIfInBounds 3 true) = K at hK ⊢
     clear hJ2 hS z1 z2 z3 z4 z6 z7
     go_simp
     exact hK _ _ z5 (fun _ _ h => h) rfl
   | 4, ho =>
     cases ho
     refine wpOp_of rfl rfl ?_
     have f0 : (aq.tmps.getD 38 undef) = .int .i64 (k_ : Int) := z6 0 38 (hall { on := 0, ground := Ground.data } (by simp) rfl) rfl
     have f3 : (aq.tmps.getD 41 undef) = .int .i64 (en : Int) := z6 3 41 (hall { on := 3, ground := Ground.data } (by simp) rfl) rfl
     have hgt : (en : Int) ≤ (k_ : Int) := by omega
     have hK := fun (v : Value) (W2 : World) hW hT hv => hJ2.put hS 4 42 rfl (by omega) (W' := W2) hW hT v hv
     clear ho hall hl hQ
     generalize InvQ _ _ _ w0 a0 (lq.setIfInBounds 4 true) = K at hK ⊢
     clear hJ2 hS z1 z2 z3 z4 z6 z7
     go_simp
     exact hK _ _ z5 (fun _ _ h => h) rfl
   | 5, ho =>
     cases ho
     refine wpOp_of rfl rfl ?_
     have f4 : (aq.tmps.getD 42 undef) = .bool true := z6 4 42 (hall { on := 4, ground := Ground.data } (by simp) rfl) rfl
     have hK := fun (v : Value) (W2 : World) hW hT hv => hJ2.put hS 5 43 rfl (by omega) (W' := W2) hW hT v hv
     clear ho hall hl hQ
     generalize InvQ _ _ _ w0 a0 (lq.setIfInBounds 5 true) = K at hK ⊢
     clear hJ2 hS z1 z2 z3 z4 z6 z7
     go_simp
     exact hK _ _ z5 (fun _ _ h => h) rfl
   | 6, ho =>
     cases ho
     have fg : aq.tmps.getD 43 undef = .bool true := z6 5 43 (hall { on := 5, ground := Ground.guard } (by simp) rfl) rfl
     refine wpOp_off rfl rfl rfl rfl fg ?_
     exact hJ2.put hS 6 44 rfl (by omega) z5 (fun _ _ h => h) undef rfl
   | 7, ho =>
     cases ho
     have fg : aq.tmps.getD 43 undef = .bool true := z6 5 43 (hall { on := 5, ground := Ground.guard } (by simp) rfl) rfl
     refine wpOp_off rfl rfl rfl rfl fg ?_
     exact hJ2.put hS 7 45 rfl (by omega) z5 (fun _ _ h => h) undef rfl
   | 8, ho =>
     cases ho
     have fg : aq.tmps.getD 43 undef = .bool true := z6 5 43 (hall { on := 5, ground := Ground.guard } (by simp) rfl) rfl
     refine wpOp_off rfl rfl rfl rfl fg ?_
     exact hJ2.put hS 8 46 rfl (by omega) z5 (fun _ _ h => h) undef rfl
   | 9, ho =>
     cases ho
     have fg : aq.tmps.getD 43 undef = .bool true := z6 5 43 (hall { on := 5, ground := Ground.guard } (by simp) rfl) rfl
     refine wpOp_off rfl rfl rfl rfl fg ?_
     exact hJ2.put hS 9 47 rfl (by omega) z5 (fun _ _ h => h) undef rfl
   | 10, ho =>
     cases ho
     have fg : aq.tmps.getD 43 undef = .bool true := z6 5 43 (hall { on := 5, ground := Ground.guard } (by simp) rfl) rfl
     refine wpOp_off rfl rfl rfl rfl fg ?_
     exact hJ2.put hS 10 48 rfl (by omega) z5 (fun _ _ h => h) undef rfl
   | 11, ho =>
     cases ho
     have fg : aq.tmps.getD 43 undef = .bool true := z6 5 43 (hall { on := 5, ground := Ground.guard } (by simp) rfl) rfl
     refine wpOp_off rfl rfl rfl rfl fg ?_
     exact hJ2.put hS 11 49 rfl (by omega) z5 (fun _ _ h => h) undef rfl
   | 12, ho =>
     cases ho
     have fg : aq.tmps.getD 43 undef = .bool true := z6 5 43 (hall { on := 5, ground := Ground.guard } (by simp) rfl) rfl
     refine wpOp_off rfl rfl rfl rfl fg ?_
     exact hJ2.put hS 12 50 rfl (by omega) z5 (fun _ _ h => h) undef rfl
   | 13, ho =>
     cases ho
     have fg : aq.tmps.getD 43 undef = .bool true := z6 5 43 (hall { on := 5, ground := Ground.guard } (by simp) rfl) rfl
     refine wpOp_off rfl rfl rfl rfl fg ?_
     exact hJ2.put hS 13 51 rfl (by omega) z5 (fun _ _ h => h) undef rfl
   | 14, ho =>
     cases ho
     have fg : aq.tmps.getD 43 undef = .bool true := z6 5 43 (hall { on := 5, ground := Ground.guard } (by simp) rfl) rfl
     refine wpOp_off rfl rfl rfl rfl fg ?_
     exact hJ2.put hS 14 52 rfl (by omega) z5 (fun _ _ h => h) undef rfl
   | 15, ho =>
     cases ho
     have fg : aq.tmps.getD 43 undef = .bool true := z6 5 43 (hall { on := 5, ground := Ground.guard } (by simp) rfl) rfl
     refine wpOp_off rfl rfl rfl rfl fg ?_
     exact hJ2.put hS 15 53 rfl (by omega) z5 (fun _ _ h => h) undef rfl
   | 16, ho =>
     cases ho
     have fg : aq.tmps.getD 43 undef = .bool true := z6 5 43 (hall { on := 5, ground := Ground.guard } (by simp) rfl) rfl
     refine wpOp_off rfl rfl rfl rfl fg ?_
     exact hJ2.put hS 16 54 rfl (by omega) z5 (fun _ _ h => h) undef rfl
   | 17, ho =>
     cases ho
     refine wpOp_of rfl rfl ?_
     have f5 : (aq.tmps.getD 43 undef) = .bool true := z6 5 43 (hall { on := 5, ground := Ground.data } (by simp) rfl) rfl
     have f16 : (aq.tmps.getD 54 undef) = undef := z6 16 54 (hall { on := 16, ground := Ground.data } (by simp) rfl) rfl
     have hK := fun (v : Value) (W2 : World) hW hT hv => hJ2.put hS 17 55 rfl (by omega) (W' := W2) hW hT v hv
     clear ho hall hl hQ
     generalize InvQ _ _ _ w0 a0 (lq.setIfInBounds 17 true) = K at hK ⊢
     clear hJ2 hS z1 z2 z3 z4 z6 z7
     go_simp
     exact hK _ _ z5 (fun _ _ h => h) rfl
   | iq + 18, ho => simp at ho
 · intro lq aq W hJ hr
   obtain ⟨z1, z2, z3, z4, z5, z6, z7⟩ := hJ
   have hl := listed_of hr [0, 1, 2, 3, 4, 5, 6, 7, 8, 9, 10, 11, 12, 13, 14, 15, 16, 17] [] (by simp) (by kernel_rfl) (by rw [z1]; decide)
   exact hQ aq W z2 z3 (fun e he => z4 e (by simpa using he)) (z6 17 55 (hl 17 (by simp)) rfl) z5
def VqlC (F A off n cap c k_ E0 eoff : Nat) (en ec : Nat) (ev iv : Int) (_B : Nat) : Nat → Value → World → Prop
 | 0, v, _ => v = .int .i64 (k_ : Int)
 | 1, v, _ => v = .pointer (some ⟨F, 4, none⟩)
 | 2, v, _ => v = .slice (some ⟨E0, eoff, none⟩) en ec
 | 3, v, _ => v = .int .i64 (en : Int)
 | 4, v, _ => v = .bool false
 | 5, v, _ => v = .bool false
 | 6, v, _ => v = .pointer (some ⟨F, 4, none⟩)
 | 7, v, _ => v = .slice (some ⟨E0, eoff, none⟩) en ec
 | 8, v, _ => v = .int .i64 (k_ : Int)
 | 9, v, _ => v = .pointer (some ⟨E0, eoff + k_, none⟩)
 | 10, v, _ => v = .int .i64 ev
 | 11, v, _ => v = .slice (some ⟨A, off, none⟩) n cap
 | 12, v, _ => v = .int .i64 (c : Int)
 | 13, v, _ => v = .pointer (some ⟨A, off + c * 5, none⟩)
 | 14, v, _ => v = .pointer (some ⟨A, off + c * 5, none⟩)
 | 15, v, _ => v = .int .i64 iv
 | 16, v, _ => v = .bool (decide (¬ (ev = iv)))
 | 17, v, _ => v = .bool (decide (¬ (ev = iv)))
 | _, _, _ => True
set_option maxRecDepth 100000 in
set_option maxHeartbeats 4000000 in
theorem qlC {Q : Exit → Act → World → Prop} {F A off n cap c k_ E0 eoff : Nat} {en ec : Nat} {ev iv : Int}  {w0 : World} {a0 : Act} {idq : Nat} {t0 t1 t2 t3 t4 t5 t6 t7 t8 t9 t10 t11 t12 t13 t14 t15 t16 t17 : TypeId} {q0 q1 q2 q3 q4 q5 q6 q7 q8 q9 q10 q11 q12 q13 q14 q15 q16 q17 : String}
   (hk : k_ < en) (hen : en ≤ 1048576) (hcn : c < n) (hn : n ≤ 1048576) (h1 : a0.tmps[1]? = some (.slice (some ⟨A, off, none⟩) n cap)) (h2 : a0.tmps[2]? = some (.pointer (some ⟨F, 0, none⟩))) (h6 : a0.tmps[6]? = some (.int .i64 (k_ : Int))) (h7 : a0.tmps[7]? = some (.int .i64 (c : Int))) (k0 : w0.cell? ⟨F, 4, none⟩ = some (.slice (some ⟨E0, eoff, none⟩) en ec)) (l0 : (⟨F, 4, none⟩ : Addr).block < w0.heap.size) (k1 : w0.cell? ⟨E0, eoff + k_, none⟩ = some (.int .i64 ev)) (l1 : (⟨E0, eoff + k_, none⟩ : Addr).block < w0.heap.size) (k2 : w0.cell? ⟨A, off + c * 5, none⟩ = some (.int .i64 iv)) (l2 : (⟨A, off + c * 5, none⟩ : Addr).block < w0.heap.size) (hz : a0.tmps.size = 63)
   (hQ : ∀ aq W, aq.tmps.size = a0.tmps.size → aq.defers = a0.defers → (∀ e, e ∉ ([38, 39, 40, 41, 42, 43, 44, 45, 46, 47, 48, 49, 50, 51, 52, 53, 54, 55] : List Nat) → aq.tmps[e]? = a0.tmps[e]?) → VqlC F A off n cap c k_ E0 eoff en ec ev iv w0.heap.size 17 (aq.tmps.getD 55 undef) W → Below w0.heap.size w0 W → Q .normal aq W) :
   (Code.region idq #[{ dst := some 38, op := Op.move (Operand.tmp 6), type := t0, pos := q0, after := #[], guard := none },
   { dst := some 39, op := Op.fieldAddr 64 (Operand.tmp 2) 4, type := t1, pos := q1, after := #[], guard := none },
   { dst := some 40, op := Op.load 53 (Operand.tmp 39), type := t2, pos := q2, after := #[{ on := 1, ground := Ground.data }], guard := none },
   { dst := some 41, op := Op.call { callee := Callee.builtin Builtin.len, args := #[Operand.tmp 40], argTypes := #[53] }, type := t3, pos := q3, after := #[{ on := 2, ground := Ground.data }], guard := none },
   { dst := some 42, op := Op.binOp BinOp.geq 3 (Operand.tmp 38) (Operand.tmp 41) 3, type := t4, pos := q4, after := #[{ on := 0, ground := Ground.data }, { on := 3, ground := Ground.data }], guard := none },
   { dst := some 43, op := Op.move (Operand.tmp 42), type := t5, pos := q5, after := #[{ on := 4, ground := Ground.data }], guard := none },
   { dst := some 44, op := Op.fieldAddr 64 (Operand.tmp 2) 4, type := t6, pos := q6, after := #[{ on := 5, ground := Ground.guard }], guard := some (5, false) },
   { dst := some 45, op := Op.load 53 (Operand.tmp 44), type := t7, pos := q7, after := #[{ on := 6, ground := Ground.data }, { on := 5, ground := Ground.guard }], guard := some (5, false) },
   { dst := some 46, op := Op.move (Operand.tmp 6), type := t8, pos := q8, after := #[{ on := 5, ground := Ground.guard }], guard := some (5, false) },
   { dst := some 47, op := Op.indexAddr 53 (Operand.tmp 45) (Operand.tmp 46), type := t9, pos := q9, after := #[{ on := 7, ground := Ground.data }, { on := 8, ground := Ground.data }, { on := 5, ground := Ground.guard }], guard := some (5, false) },
   { dst := some 48, op := Op.load 2 (Operand.tmp 47), type := t10, pos := q10, after := #[{ on := 9, ground := Ground.data }, { on := 5, ground := Ground.guard }], guard := some (5, false) },
   { dst := some 49, op := Op.move (Operand.tmp 1), type := t11, pos := q11, after := #[{ on := 5, ground := Ground.guard }], guard := some (5, false) },
   { dst := some 50, op := Op.move (Operand.tmp 7), type := t12, pos := q12, after := #[{ on := 5, ground := Ground.guard }], guard := some (5, false) },
   { dst := some 51, op := Op.indexAddr 31 (Operand.tmp 49) (Operand.tmp 50), type := t13, pos := q13, after := #[{ on := 11, ground := Ground.data }, { on := 12, ground := Ground.data }, { on := 5, ground := Ground.guard }], guard := some (5, false) },
   { dst := some 52, op := Op.fieldAddr 59 (Operand.tmp 51) 0, type := t14, pos := q14, after := #[{ on := 13, ground := Ground.data }, { on := 5, ground := Ground.guard }], guard := some (5, false) },
   { dst := some 53, op := Op.load 2 (Operand.tmp 52), type := t15, pos := q15, after := #[{ on := 14, ground := Ground.data }, { on := 5, ground := Ground.guard }], guard := some (5, false) },
   { dst := some 54, op := Op.binOp BinOp.neq 2 (Operand.tmp 48) (Operand.tmp 53) 2, type := t16, pos := q16, after := #[{ on := 10, ground := Ground.data }, { on := 15, ground := Ground.data }, { on := 5, ground := Ground.guard }], guard := some (5, false) },
   { dst := some 55, op := Op.pick (Operand.tmp 43) (Operand.const (Value.bool true)) (Operand.tmp 54), type := t17, pos := q17, after := #[{ on := 5, ground := Ground.data }, { on := 16, ground := Ground.data }], guard := none }] true).wp Try.prog Q a0 w0 := by
 have hS : distS [some 38, some 39, some 40, some 41, some 42, some 43, some 44, some 45, some 46, some 47, some 48, some 49, some 50, some 51, some 52, some 53, some 54, some 55] = true := rfl
 refine wp_region_q (by kernel_rfl) w0.heap.size [some 38, some 39, some 40, some 41, some 42, some 43, some 44, some 45, some 46, some 47, some 48, some 49, some 50, some 51, some 52, some 53, some 54, some 55] (VqlC F A off n cap c k_ E0 eoff en ec ev iv w0.heap.size) rfl ?_ ?_
 · intro Q lq aq W iq oq hJ hl ho hall
   have hJ2 := hJ
   obtain ⟨z1, z2, z3, z4, z5, z6, z7⟩ := hJ
   have g1 : aq.tmps.getD 1 undef = .slice (some ⟨A, off, none⟩) n cap := by rw [Array.getD_eq_getD_getElem?, z4 1 (by decide), h1]; rfl
   have g2 : aq.tmps.getD 2 undef = .pointer (some ⟨F, 0, none⟩) := by rw [Array.getD_eq_getD_getElem?, z4 2 (by decide), h2]; rfl
   have g6 : aq.tmps.getD 6 undef = .int .i64 (k_ : Int) := by rw [Array.getD_eq_getD_getElem?, z4 6 (by decide), h6]; rfl
   have g7 : aq.tmps.getD 7 undef = .int .i64 (c : Int) := by rw [Array.getD_eq_getD_getElem?, z4 7 (by decide), h7]; rfl
   have c0 : W.cell? ⟨F, 4, none⟩ = some (.slice (some ⟨E0, eoff, none⟩) en ec) := (z5.cell l0).trans k0
   have c1 : W.cell? ⟨E0, eoff + k_, none⟩ = some (.int .i64 ev) := (z5.cell l1).trans k1
   have c2 : W.cell? ⟨A, off + c * 5, none⟩ = some (.int .i64 iv) := (z5.cell l2).trans k2
   match iq, ho with
   | 0, ho =>
     cases ho
     refine wpOp_of rfl rfl ?_
     have hK := fun (v : Value) (W2 : World) hW hT hv => hJ2.put hS 0 38 rfl (by omega) (W' := W2) hW hT v hv
     clear ho hall hl hQ
     generalize InvQ _ _ _ w0 a0 (lq.setIfInBounds 0 true) = K at hK ⊢
     clear hJ2 hS z1 z2 z3 z4 z6 z7
     go_simp
     exact hK _ _ z5 (fun _ _ h => h) rfl
   | 1, ho =>
     cases ho
     refine wpOp_of rfl rfl ?_
     have hK := fun (v : Value) (W2 : World) hW hT hv => hJ2.put hS 1 39 rfl (by omega) (W' := W2) hW hT v hv
     clear ho hall hl hQ
     generalize InvQ _ _ _ w0 a0 (lq.setIfInBounds 1 true) = K at hK ⊢
     clear hJ2 hS z1 z2 z3 z4 z6 z7
     go_simp
     exact hK _ _ z5 (fun _ _ h => h) rfl
   | 2, ho =>
     cases ho
     refine wpOp_of rfl rfl ?_
     have f1 : (aq.tmps.getD 39 undef) = .pointer (some ⟨F, 4, none⟩) := z6 1 39 (hall { on := 1, ground := Ground.data } (by simp) rfl) rfl
     have hK := fun (v : Value) (W2 : World) hW hT hv => hJ2.put hS 2 40 rfl (by omega) (W' := W2) hW hT v hv
     clear ho hall hl hQ
     generalize InvQ _ _ _ w0 a0 (lq.setIfInBounds 2 true) = K at hK ⊢
     clear hJ2 hS z1 z2 z3 z4 z6 z7
     go_simp
     exact hK _ _ z5 (fun _ _ h => h) rfl
   | 3, ho =>
     cases ho
     refine wpOp_of rfl rfl ?_
     have f2 : (aq.tmps.getD 40 undef) = .slice (some ⟨E0, eoff, none⟩) en ec := z6 2 40 (hall { on := 2, ground := Ground.data } (by simp) rfl) rfl
     have hK := fun (v : Value) (W2 : World) hW hT hv => hJ2.put hS 3 41 rfl (by omega) (W' := W2) hW hT v hv
     clear ho hall hl hQ
     generalize InvQ _ _ _ w0 a0 (lq.setIfInBounds 3 true) = K at hK ⊢
     clear hJ2 hS z1 z2 z3 z4 z6 z7
     go_simp
     exact hK _ _ z5 (fun _ _ h => h) rfl
   | 4, ho =>
     cases ho
     refine wpOp_of rfl rfl ?_
     have f0 : (aq.tmps.getD 38 undef) = .int .i64 (k_ : Int) := z6 0 38 (hall { on := 0, ground := Ground.data } (by simp) rfl) rfl
     have f3 : (aq.tmps.getD 41 undef) = .int .i64 (en : Int) := z6 3 41 (hall { on := 3, ground := Ground.data } (by simp) rfl) rfl
     have hgt : (k_ : Int) < (en : Int) := by omega
     have hK := fun (v : Value) (W2 : World) hW hT hv => hJ2.put hS 4 42 rfl (by omega) (W' := W2) hW hT v hv
     clear ho hall hl hQ
     generalize InvQ _ _ _ w0 a0 (lq.setIfInBounds 4 true) = K at hK ⊢
     clear hJ2 hS z1 z2 z3 z4 z6 z7
     go_simp
     exact hK _ _ z5 (fun _ _ h => h) (by show _ = _; exact congrArg Value.bool (decide_eq_false (by omega)))
   | 5, ho =>
     cases ho
     refine wpOp_of rfl rfl ?_
     have f4 : (aq.tmps.getD 42 undef) = .bool false := z6 4 42 (hall { on := 4, ground := Ground.data } (by simp) rfl) rfl
     have hK := fun (v : Value) (W2 : World) hW hT hv => hJ2.put hS 5 43 rfl (by omega) (W' := W2) hW hT v hv
     clear ho hall hl hQ
     generalize InvQ _ _ _ w0 a0 (lq.setIfInBounds 5 true) = K at hK ⊢
     clear hJ2 hS z1 z2 z3 z4 z6 z7
     go_simp
     exact hK _ _ z5 (fun _ _ h => h) rfl
   | 6, ho =>
     cases ho
     have fg : aq.tmps.getD 43 undef = .bool false := z6 5 43 (hall { on := 5, ground := Ground.guard } (by simp) rfl) rfl
     refine wpOp_on rfl rfl rfl rfl fg ?_
     have hK := fun (v : Value) (W2 : World) hW hT hv => hJ2.put hS 6 44 rfl (by omega) (W' := W2) hW hT v hv
     clear ho hall hl hQ
     generalize InvQ _ _ _ w0 a0 (lq.setIfInBounds 6 true) = K at hK ⊢
     clear hJ2 hS z1 z2 z3 z4 z6 z7
     go_simp
     exact hK _ _ z5 (fun _ _ h => h) rfl
   | 7, ho =>
     cases ho
     have fg : aq.tmps.getD 43 undef = .bool false := z6 5 43 (hall { on := 5, ground := Ground.guard } (by simp) rfl) rfl
     refine wpOp_on rfl rfl rfl rfl fg ?_
     have f6 : (aq.tmps.getD 44 undef) = .pointer (some ⟨F, 4, none⟩) := z6 6 44 (hall { on := 6, ground := Ground.data } (by simp) rfl) rfl
     have hK := fun (v : Value) (W2 : World) hW hT hv => hJ2.put hS 7 45 rfl (by omega) (W' := W2) hW hT v hv
     clear ho hall hl hQ
     generalize InvQ _ _ _ w0 a0 (lq.setIfInBounds 7 true) = K at hK ⊢
     clear hJ2 hS z1 z2 z3 z4 z6 z7
     go_simp
     exact hK _ _ z5 (fun _ _ h => h) rfl
   | 8, ho =>
     cases ho
     have fg : aq.tmps.getD 43 undef = .bool false := z6 5 43 (hall { on := 5, ground := Ground.guard } (by simp) rfl) rfl
     refine wpOp_on rfl rfl rfl rfl fg ?_
     have hK := fun (v : Value) (W2 : World) hW hT hv => hJ2.put hS 8 46 rfl (by omega) (W' := W2) hW hT v hv
     clear ho hall hl hQ
     generalize InvQ _ _ _ w0 a0 (lq.setIfInBounds 8 true) = K at hK ⊢
     clear hJ2 hS z1 z2 z3 z4 z6 z7
     go_simp
     exact hK _ _ z5 (fun _ _ h => h) rfl
   | 9, ho =>
     cases ho
     have fg : aq.tmps.getD 43 undef = .bool false := z6 5 43 (hall { on := 5, ground := Ground.guard } (by simp) rfl) rfl
     refine wpOp_on rfl rfl rfl rfl fg ?_
     have f7 : (aq.tmps.getD 45 undef) = .slice (some ⟨E0, eoff, none⟩) en ec := z6 7 45 (hall { on := 7, ground := Ground.data } (by simp) rfl) rfl
     have f8 : (aq.tmps.getD 46 undef) = .int .i64 (k_ : Int) := z6 8 46 (hall { on := 8, ground := Ground.data } (by simp) rfl) rfl
     have hkI : (k_ : Int) < en := by omega
     have heI : (en : Int) ≤ 1048576 := by omega
     have hK := fun (v : Value) (W2 : World) hW hT hv => hJ2.put hS 9 47 rfl (by omega) (W' := W2) hW hT v hv
     clear ho hall hl hQ
     generalize InvQ _ _ _ w0 a0 (lq.setIfInBounds 9 true) = K at hK ⊢
     clear hJ2 hS z1 z2 z3 z4 z6 z7
     go_simp
     exact hK _ _ z5 (fun _ _ h => h) rfl
   | 10, ho =>
     cases ho
     have fg : aq.tmps.getD 43 undef = .bool false := z6 5 43 (hall { on := 5, ground := Ground.guard } (by simp) rfl) rfl
     refine wpOp_on rfl rfl rfl rfl fg ?_
     have f9 : (aq.tmps.getD 47 undef) = .pointer (some ⟨E0, eoff + k_, none⟩) := z6 9 47 (hall { on := 9, ground := Ground.data } (by simp) rfl) rfl
     have hK := fun (v : Value) (W2 : World) hW hT hv => hJ2.put hS 10 48 rfl (by omega) (W' := W2) hW hT v hv
     clear ho hall hl hQ
     generalize InvQ _ _ _ w0 a0 (lq.setIfInBounds 10 true) = K at hK ⊢
     clear hJ2 hS z1 z2 z3 z4 z6 z7
     go_simp
     exact hK _ _ z5 (fun _ _ h => h) rfl
   | 11, ho =>
     cases ho
     have fg : aq.tmps.getD 43 undef = .bool false := z6 5 43 (hall { on := 5, ground := Ground.guard } (by simp) rfl) rfl
     refine wpOp_on rfl rfl rfl rfl fg ?_
     have hK := fun (v : Value) (W2 : World) hW hT hv => hJ2.put hS 11 49 rfl (by omega) (W' := W2) hW hT v hv
     clear ho hall hl hQ
     generalize InvQ _ _ _ w0 a0 (lq.setIfInBounds 11 true) = K at hK ⊢
     clear hJ2 hS z1 z2 z3 z4 z6 z7
     go_simp
     exact hK _ _ z5 (fun _ _ h => h) rfl
   | 12, ho =>
     cases ho
     have fg : aq.tmps.getD 43 undef = .bool false := z6 5 43 (hall { on := 5, ground := Ground.guard } (by simp) rfl) rfl
     refine wpOp_on rfl rfl rfl rfl fg ?_
     have hK := fun (v : Value) (W2 : World) hW hT hv => hJ2.put hS 12 50 rfl (by omega) (W' := W2) hW hT v hv
     clear ho hall hl hQ
     generalize InvQ _ _ _ w0 a0 (lq.setIfInBounds 12 true) = K at hK ⊢
     clear hJ2 hS z1 z2 z3 z4 z6 z7
     go_simp
     exact hK _ _ z5 (fun _ _ h => h) rfl
   | 13, ho =>
     cases ho
     have fg : aq.tmps.getD 43 undef = .bool false := z6 5 43 (hall { on := 5, ground := Ground.guard } (by simp) rfl) rfl
     refine wpOp_on rfl rfl rfl rfl fg ?_
     have f11 : (aq.tmps.getD 49 undef) = .slice (some ⟨A, off, none⟩) n cap := z6 11 49 (hall { on := 11, ground := Ground.data } (by simp) rfl) rfl
     have f12 : (aq.tmps.getD 50 undef) = .int .i64 (c : Int) := z6 12 50 (hall { on := 12, ground := Ground.data } (by simp) rfl) rfl
     have hcI : (c : Int) < n := by omega
     have hnI : (n : Int) ≤ 1048576 := by omega
     have hK := fun (v : Value) (W2 : World) hW hT hv => hJ2.put hS 13 51 rfl (by omega) (W' := W2) hW hT v hv
     clear ho hall hl hQ
     generalize InvQ _ _ _ w0 a0 (lq.setIfInBounds 13 true) = K at hK ⊢
     clear hJ2 hS z1 z2 z3 z4 z6 z7
     go_simp
     exact hK _ _ z5 (fun _ _ h => h) rfl
   | 14, ho =>
     cases ho
     have fg : aq.tmps.getD 43 undef = .bool false := z6 5 43 (hall { on := 5, ground := Ground.guard } (by simp) rfl) rfl
     refine wpOp_on rfl rfl rfl rfl fg ?_
     have f13 : (aq.tmps.getD 51 undef) = .pointer (some ⟨A, off + c * 5, none⟩) := z6 13 51 (hall { on := 13, ground := Ground.data } (by simp) rfl) rfl
     have hK := fun (v : Value) (W2 : World) hW hT hv => hJ2.put hS 14 52 rfl (by omega) (W' := W2) hW hT v hv
     clear ho hall hl hQ
     generalize InvQ _ _ _ w0 a0 (lq.setIfInBounds 14 true) = K at hK ⊢
     clear hJ2 hS z1 z2 z3 z4 z6 z7
     go_simp
     exact hK _ _ z5 (fun _ _ h => h) rfl
   | 15, ho =>
     cases ho
     have fg : aq.tmps.getD 43 undef = .bool false := z6 5 43 (hall { on := 5, ground := Ground.guard } (by simp) rfl) rfl
     refine wpOp_on rfl rfl rfl rfl fg ?_
     have f14 : (aq.tmps.getD 52 undef) = .pointer (some ⟨A, off + c * 5, none⟩) := z6 14 52 (hall { on := 14, ground := Ground.data } (by simp) rfl) rfl
     have hK := fun (v : Value) (W2 : World) hW hT hv => hJ2.put hS 15 53 rfl (by omega) (W' := W2) hW hT v hv
     clear ho hall hl hQ
     generalize InvQ _ _ _ w0 a0 (lq.setIfInBounds 15 true) = K at hK ⊢
     clear hJ2 hS z1 z2 z3 z4 z6 z7
     go_simp
     exact hK _ _ z5 (fun _ _ h => h) rfl
   | 16, ho =>
     cases ho
     have fg : aq.tmps.getD 43 undef = .bool false := z6 5 43 (hall { on := 5, ground := Ground.guard } (by simp) rfl) rfl
     refine wpOp_on rfl rfl rfl rfl fg ?_
     have f10 : (aq.tmps.getD 48 undef) = .int .i64 ev := z6 10 48 (hall { on := 10, ground := Ground.data } (by simp) rfl) rfl
     have f15 : (aq.tmps.getD 53 undef) = .int .i64 iv := z6 15 53 (hall { on := 15, ground := Ground.data } (by simp) rfl) rfl
     have hK := fun (v : Value) (W2 : World) hW hT hv => hJ2.put hS 16 54 rfl (by omega) (W' := W2) hW hT v hv
     clear ho hall hl hQ
     generalize InvQ _ _ _ w0 a0 (lq.setIfInBounds 16 true) = K at hK ⊢
     clear hJ2 hS z1 z2 z3 z4 z6 z7
     go_simp
     exact hK _ _ z5 (fun _ _ h => h) (by show Value.bool _ = Value.bool _; congr 1; rw [Bool.eq_iff_iff]; simp)
   | 17, ho =>
     cases ho
     refine wpOp_of rfl rfl ?_
     have f5 : (aq.tmps.getD 43 undef) = .bool false := z6 5 43 (hall { on := 5, ground := Ground.data } (by simp) rfl) rfl
     have f16 : (aq.tmps.getD 54 undef) = .bool (decide (¬ (ev = iv))) := z6 16 54 (hall { on := 16, ground := Ground.data } (by simp) rfl) rfl
     have hK := fun (v : Value) (W2 : World) hW hT hv => hJ2.put hS 17 55 rfl (by omega) (W' := W2) hW hT v hv
     clear ho hall hl hQ
     generalize InvQ _ _ _ w0 a0 (lq.setIfInBounds 17 true) = K at hK ⊢
     clear hJ2 hS z1 z2 z3 z4 z6 z7
     go_simp
     exact hK _ _ z5 (fun _ _ h => h) (by show Value.bool _ = Value.bool _; congr 1; rw [Bool.eq_iff_iff]; simp)
   | iq + 18, ho => simp at ho
 · intro lq aq W hJ hr
   obtain ⟨z1, z2, z3, z4, z5, z6, z7⟩ := hJ
   have hl := listed_of hr [0, 1, 2, 3, 4, 5, 6, 7, 8, 9, 10, 11, 12, 13, 14, 15, 16, 17] [] (by simp) (by kernel_rfl) (by rw [z1]; decide)
   exact hQ aq W z2 z3 (fun e he => z4 e (by simpa using he)) (z6 17 55 (hl 17 (by simp)) rfl) z5
def RdM (Q : QD) (d at_ : Nat) (x y s : Int) (w : World) (r : Ending) (w' : World) : Prop :=
 Below w.heap.size w w' ∧ ((mrd Q d at_ x y s = none ∧ r = .returned (.tuple #[.agg #[.int .i64 0, .int .i64 0, .int .i64 0, .slice none 0 0, .slice none 0 0], .int .i64 0, .bool false])) ∨ ∃ e kv ev, mrd Q d at_ x y s = some e ∧ r = .returned (.tuple #[.agg #[.int .i64 x, .int .i64 y, .int .i64 s, kv, ev], .int .i64 (e : Int), .bool true]) ∧ MTr (fun b => w.heap.size ≤ b) w' (trQ Q d at_ x y s) x y s kv ev)
theorem mrd_no {Q : QD} {d at_ : Nat} {x y s : Int} (h : baseB Q at_ x y s = false) : mrd Q d at_ x y s = none := by
 cases d with
 | zero => unfold mrd; rw [if_neg (fun e => by rw [h] at e; cases e.1)]
 | succ d => unfold mrd; rw [if_neg (by rw [h]; decide)]
theorem mrd_leaf {Q : QD} {d at_ : Nat} {x y s : Int} (h : baseB Q at_ x y s = true) (hT : Q.T at_ = false) : mrd Q d at_ x y s = some (at_ + 1) := by
 cases d with
 | zero => unfold mrd; rw [if_pos ⟨h, hT⟩]
 | succ d => unfold mrd; rw [if_pos h, if_neg (by rw [hT]; decide)]
theorem trQ_leaf {Q : QD} {d at_ : Nat} {x y s : Int} (hT : Q.T at_ = false) : trQ Q d at_ x y s = .leaf (blL Q at_) := by
 cases d with
 | zero => rfl
 | succ d => unfold trQ; rw [if_neg (by rw [hT]; decide)]
theorem mrd_zero {Q : QD} {at_ : Nat} {x y s : Int} (hT : Q.T at_ = true) : mrd Q 0 at_ x y s = none := by
 unfold mrd; rw [if_neg (fun e => by rw [hT] at e; cases e.2)]
theorem mrd_full {Q : QD} {d at_ : Nat} {x y s : Int} (hT : Q.T at_ = true) (hL : Q.L at_ ≠ 0) : mrd Q d at_ x y s = none := by
 cases d with
 | zero => exact mrd_zero hT
 | succ d =>
   rw [show mrd Q (d + 1) at_ x y s = if baseB Q at_ x y s = true then (if Q.T at_ = true then (if Q.L at_ = 0 then kp (fun a x y => mrd Q d a x y (s / 2)) (at_ + 1) x y (s / 2) 4 else none) else some (at_ + 1)) else none from rfl, if_pos hT, if_neg hL]
   split <;> rfl
theorem mrd_split {Q : QD} {d at_ : Nat} {x y s : Int} (h : baseB Q at_ x y s = true) (hT : Q.T at_ = true) (hL : Q.L at_ = 0) : mrd Q (d + 1) at_ x y s = kp (fun a x y => mrd Q d a x y (s / 2)) (at_ + 1) x y (s / 2) 4 := by
 rw [show mrd Q (d + 1) at_ x y s = if baseB Q at_ x y s = true then (if Q.T at_ = true then (if Q.L at_ = 0 then kp (fun a x y => mrd Q d a x y (s / 2)) (at_ + 1) x y (s / 2) 4 else none) else some (at_ + 1)) else none from rfl, if_pos h, if_pos hT, if_pos hL]
theorem blL_len (Q : QD) (at_ : Nat) : (blL Q at_).length = Q.L at_ := by simp [blL]
theorem blL_at {Q : QD} {at_ i : Nat} (h : i < Q.L at_) : (blL Q at_).getD i 0 = Q.E at_ i := by simp [blL, List.getD_eq_getElem?_getD, h]
theorem mrd_le {Q : QD} : ∀ {d at_ : Nat} {x y s : Int} {e : Nat}, mrd Q d at_ x y s = some e → at_ < e ∧ e ≤ Q.N
 | d, at_, x, y, s, e, h => by
   have hb : baseB Q at_ x y s = true := by
     cases hb : baseB Q at_ x y s with
     | true => rfl
     | false => rw [mrd_no hb] at h; cases h
   have hat : at_ < Q.N := (of_decide_eq_true hb).1
   cases hT : Q.T at_ with
   | false => rw [mrd_leaf hb hT] at h; cases h; omega
   | true =>
     cases d with
     | zero => rw [mrd_zero hT] at h; cases h
     | succ d =>
       by_cases hL : Q.L at_ = 0
       · rw [mrd_split hb hT hL] at h
         have hk : ∀ k a, kp (fun a x y => mrd Q d a x y (s / 2)) (at_ + 1) x y (s / 2) k = some a → at_ < a ∧ a ≤ Q.N := by
           intro k
           induction k with
           | zero => intro a h0; cases h0; omega
           | succ k ih =>
             intro a h0
             obtain ⟨b, h1, h2⟩ := Option.bind_eq_some_iff.1 h0
             have := ih b h1
             have := mrd_le h2
             omega
         exact hk 4 e h
       · rw [mrd_full hT hL] at h; cases h
theorem z5_other {w : World} {v0 v1 v2 v3 v4 : Value} {g b : Nat} (hb : b ≠ g) : (((((w.setCell ⟨g, 0, none⟩ (v0)).setCell ⟨g, 1, none⟩ (v1)).setCell ⟨g, 2, none⟩ (v2)).setCell ⟨g, 3, none⟩ (v3)).setCell ⟨g, 4, none⟩ (v4)).heap[b]? = w.heap[b]? :=
 (Below.heap_setCell _ _ _ _ hb).trans ((Below.heap_setCell _ _ _ _ hb).trans ((Below.heap_setCell _ _ _ _ hb).trans ((Below.heap_setCell _ _ _ _ hb).trans (Below.heap_setCell _ _ _ _ hb))))
theorem z5_set {W : World} {g : Nat} (B : Blk W g [.int .i64 0, .int .i64 0, .int .i64 0, .slice none 0 0, .slice none 0 0]) : Hid (Blk (((((W.setCell ⟨g, 0, none⟩ (.int .i64 0)).setCell ⟨g, 1, none⟩ (.int .i64 0)).setCell ⟨g, 2, none⟩ (.int .i64 0)).setCell ⟨g, 3, none⟩ (.slice none 0 0)).setCell ⟨g, 4, none⟩ (.slice none 0 0)) g [.int .i64 0, .int .i64 0, .int .i64 0, .slice none 0 0, .slice none 0 0]) :=
 ((((B.setI 0 (by decide) _).setI 1 (by simp) _).setI 2 (by simp) _).setI 3 (by simp) _).setI 4 (by simp) _
theorem Try.infoB13 : (Try.prog.info? 64).map (fun i => (i.zero, i.size, i.bytes)) = some (some (.agg #[.int .i64 0, .int .i64 0, .int .i64 0, .slice none 0 0, .slice none 0 0]), 5, 72) := by kernel_rfl
theorem info_b13 : ∃ i0, Try.prog.info? 64 = some i0 ∧ i0.zero = some (.agg #[.int .i64 0, .int .i64 0, .int .i64 0, .slice none 0 0, .slice none 0 0]) ∧ i0.size = 5 ∧ i0.bytes = 72 := by
 obtain ⟨i, hi, hz⟩ := Option.map_eq_some_iff.1 Try.infoB13
 simp only [Prod.mk.injEq] at hz
 exact ⟨i, hi, hz.1, hz.2.1, hz.2.2⟩
set_option maxRecDepth 100000 in
set_option maxHeartbeats 16000000 in
theorem l13Read_base (Q : QD) (bo : Option Addr) (bcap A off : Nat) (so : Nat → Option Addr × Nat) (wb : World) (hN : Q.N ≤ 1048576) (hLb : ∀ i, i < Q.N → Q.L i ≤ 1048576) (hbo : 0 < Q.N → bo = some ⟨A, off, none⟩) (hso : ∀ i, i < Q.N → (so i).1 = none → (so i).2 = 0) (hBl : BlIn Q wb A off so) (d at_ : Nat) (x y s : Int) (w : World) (hd8 : d ≤ 8) (hatN : at_ ≤ Q.N) (hcase : ¬ (baseB Q at_ x y s = true ∧ Q.T at_ = true ∧ 0 < d ∧ Q.L at_ = 0)) (HB : Below wb.heap.size wb w) : Calls Try.prog 58 #[.slice bo Q.N bcap, .int .i64 (at_ : Int), .int .i64 x, .int .i64 y, .int .i64 s, .int .i64 (d : Int)] w (RdM Q d at_ x y s w) := by
 have hatI : (at_ : Int) ≤ 1048576 := by omega
 have hdI : (d : Int) ≤ 8 := by omega
 by_cases hat : at_ < Q.N
 rotate_left
 · have h1 : (Q.N : Int) ≤ at_ := by omega
   have HBA : Below w.heap.size w (w.alloc (.cells #[.int .i64 0, .int .i64 0, .int .i64 0, .slice none 0 0, .slice none 0 0] 64)) := (Below.refl _ w).alloc (Nat.le_refl _) _
   clear hBl
   go_enter Try.func58, Try.ntmps58
   go_wp2
   refine bodyPost_ret (v := .tuple #[.agg #[.int .i64 0, .int .i64 0, .int .i64 0, .slice none 0 0, .slice none 0 0], .int .i64 0, .bool false]) (by simp [results, Try.results58, go_sem]) rfl ?_
   exact ⟨HBA, .inl ⟨mrd_no (decide_eq_false (fun h => hat h.1)), rfl⟩⟩
 have HBl : Hid (BlIn Q wb A off so) := hBl
 obtain rfl := hbo (by omega)
 obtain ⟨hA, c0, c1, c2, c3, c4, hNo⟩ := hBl.below HB at_ hat
 have B0 : Blk (w.alloc (.cells #[.int .i64 0, .int .i64 0, .int .i64 0, .slice none 0 0, .slice none 0 0] 64)) w.heap.size [.int .i64 0, .int .i64 0, .int .i64 0, .slice none 0 0, .slice none 0 0] := Blk.new w [.int .i64 0, .int .i64 0, .int .i64 0, .slice none 0 0, .slice none 0 0] 64 rfl
 have HBA : Below w.heap.size w (w.alloc (.cells #[.int .i64 0, .int .i64 0, .int .i64 0, .slice none 0 0, .slice none 0 0] 64)) := (Below.refl _ w).alloc (Nat.le_refl _) _
 have hcI : (at_ : Int) < Q.N := by omega
 have HI : NoIn w (so at_).1 (blL Q at_).length (fun i => (blL Q at_).getD i 0) := (fun i hi => by rw [blL_len] at hi; obtain ⟨A1, o1, e1, h1, h2⟩ := hNo i hi; exact ⟨A1, o1, e1, h1, by show _ = some (Value.int _ ((blL Q at_).getD i 0)); rw [h2, blL_at hi]⟩)
 clear hNo
 go_enter Try.func58, Try.ntmps58
 go_upto_region 4 with fail
 replace B0 := B0.alloc (.cells #[.int .i64 (Q.X at_), .int .i64 (Q.Y at_), .int .i64 (Q.Z at_), .bool (Q.T at_), .slice (so at_).1 (Q.L at_) (so at_).2] 55)
 have B1 : Blk ((w.alloc (.cells #[.int .i64 0, .int .i64 0, .int .i64 0, .slice none 0 0, .slice none 0 0] 64)).alloc (.cells #[.int .i64 (Q.X at_), .int .i64 (Q.Y at_), .int .i64 (Q.Z at_), .bool (Q.T at_), .slice (so at_).1 (Q.L at_) (so at_).2] 55)) (w.heap.size + 1) [.int .i64 (Q.X at_), .int .i64 (Q.Y at_), .int .i64 (Q.Z at_), .bool (Q.T at_), .slice (so at_).1 (Q.L at_) (so at_).2] := Blk.new (w.alloc (.cells #[.int .i64 0, .int .i64 0, .int .i64 0, .slice none 0 0, .slice none 0 0] 64)) [.int .i64 (Q.X at_), .int .i64 (Q.Y at_), .int .i64 (Q.Z at_), .bool (Q.T at_), .slice (so at_).1 (Q.L at_) (so at_).2] 55 (by simp)
 replace HBA := HBA.alloc (by simp) (.cells #[.int .i64 (Q.X at_), .int .i64 (Q.Y at_), .int .i64 (Q.Z at_), .bool (Q.T at_), .slice (so at_).1 (Q.L at_) (so at_).2] 55)
 have hsz : Hid (((w.alloc (.cells #[.int .i64 0, .int .i64 0, .int .i64 0, .slice none 0 0, .slice none 0 0] 64)).alloc (.cells #[.int .i64 (Q.X at_), .int .i64 (Q.Y at_), .int .i64 (Q.Z at_), .bool (Q.T at_), .slice (so at_).1 (Q.L at_) (so at_).2] 55)).heap.size = w.heap.size + 2) := by show _ = _; simp
 replace HI := HI.step HBA
 clear c0 c1 c2 c3 c4
 generalize ((w.alloc (.cells #[.int .i64 0, .int .i64 0, .int .i64 0, .slice none 0 0, .slice none 0 0] 64)).alloc (.cells #[.int .i64 (Q.X at_), .int .i64 (Q.Y at_), .int .i64 (Q.Z at_), .bool (Q.T at_), .slice (so at_).1 (Q.L at_) (so at_).2] 55)) = W1 at *
 have hL8 := hLb at_ hat
 by_cases hX : Q.X at_ = x
 rotate_left
 · have hXe : (Q.X at_ == x) = false := by simpa using hX
   have z0 := B0.c 0 rfl; have y0 := B0.f 0 rfl; have z1 := B0.c 1 rfl; have y1 := B0.f 1 rfl; have z2 := B0.c 2 rfl; have y2 := B0.f 2 rfl; have z3 := B0.c 3 rfl; have y3 := B0.f 3 rfl; have z4 := B0.c 4 rfl; have y4 := B0.f 4 rfl; have m0 := B1.c 0 rfl; have m1 := B1.c 1 rfl; have m2 := B1.c 2 rfl; have m3 := B1.c 3 rfl; have m4 := B1.c 4 rfl
   have BF := z5_set B0
   clear B0 B1 HI HBl
   go_wp2
   have r0 := BF.out.c 0 rfl; have r1 := BF.out.c 1 rfl; have r2 := BF.out.c 2 rfl; have r3 := BF.out.c 3 rfl; have r4 := BF.out.c 4 rfl
   refine bodyPost_ret (v := .tuple #[.agg #[.int .i64 0, .int .i64 0, .int .i64 0, .slice none 0 0, .slice none 0 0], .int .i64 0, .bool false]) (by simp [results, Try.results58, go_sem, r0, r1, r2, r3, r4]) rfl ?_
   exact ⟨(((((Below.setCell HBA (Nat.le_refl _) _).setCell (Nat.le_refl _) _).setCell (Nat.le_refl _) _).setCell (Nat.le_refl _) _).setCell (Nat.le_refl _) _), .inl ⟨mrd_no (decide_eq_false (fun h => hX h.2.1)), rfl⟩⟩
 by_cases hY : Q.Y at_ = y
 rotate_left
 · have hYe : (Q.Y at_ == y) = false := by simpa using hY
   have z0 := B0.c 0 rfl; have y0 := B0.f 0 rfl; have z1 := B0.c 1 rfl; have y1 := B0.f 1 rfl; have z2 := B0.c 2 rfl; have y2 := B0.f 2 rfl; have z3 := B0.c 3 rfl; have y3 := B0.f 3 rfl; have z4 := B0.c 4 rfl; have y4 := B0.f 4 rfl; have m0 := B1.c 0 rfl; have m1 := B1.c 1 rfl; have m2 := B1.c 2 rfl; have m3 := B1.c 3 rfl; have m4 := B1.c 4 rfl
   rw [hX] at m0
   have BF := z5_set B0
   clear B0 B1 HI HBl
   go_wp2
   have r0 := BF.out.c 0 rfl; have r1 := BF.out.c 1 rfl; have r2 := BF.out.c 2 rfl; have r3 := BF.out.c 3 rfl; have r4 := BF.out.c 4 rfl
   refine bodyPost_ret (v := .tuple #[.agg #[.int .i64 0, .int .i64 0, .int .i64 0, .slice none 0 0, .slice none 0 0], .int .i64 0, .bool false]) (by simp [results, Try.results58, go_sem, r0, r1, r2, r3, r4]) rfl ?_
   exact ⟨(((((Below.setCell HBA (Nat.le_refl _) _).setCell (Nat.le_refl _) _).setCell (Nat.le_refl _) _).setCell (Nat.le_refl _) _).setCell (Nat.le_refl _) _), .inl ⟨mrd_no (decide_eq_false (fun h => hY h.2.2.1)), rfl⟩⟩
 by_cases hZ : Q.Z at_ = s
 rotate_left
 · have hZe : (Q.Z at_ == s) = false := by simpa using hZ
   have z0 := B0.c 0 rfl; have y0 := B0.f 0 rfl; have z1 := B0.c 1 rfl; have y1 := B0.f 1 rfl; have z2 := B0.c 2 rfl; have y2 := B0.f 2 rfl; have z3 := B0.c 3 rfl; have y3 := B0.f 3 rfl; have z4 := B0.c 4 rfl; have y4 := B0.f 4 rfl; have m0 := B1.c 0 rfl; have m1 := B1.c 1 rfl; have m2 := B1.c 2 rfl; have m3 := B1.c 3 rfl; have m4 := B1.c 4 rfl
   rw [hX] at m0; rw [hY] at m1
   have BF := z5_set B0
   clear B0 B1 HI HBl
   go_wp2
   have r0 := BF.out.c 0 rfl; have r1 := BF.out.c 1 rfl; have r2 := BF.out.c 2 rfl; have r3 := BF.out.c 3 rfl; have r4 := BF.out.c 4 rfl
   refine bodyPost_ret (v := .tuple #[.agg #[.int .i64 0, .int .i64 0, .int .i64 0, .slice none 0 0, .slice none 0 0], .int .i64 0, .bool false]) (by simp [results, Try.results58, go_sem, r0, r1, r2, r3, r4]) rfl ?_
   exact ⟨(((((Below.setCell HBA (Nat.le_refl _) _).setCell (Nat.le_refl _) _).setCell (Nat.le_refl _) _).setCell (Nat.le_refl _) _).setCell (Nat.le_refl _) _), .inl ⟨mrd_no (decide_eq_false (fun h => hZ h.2.2.2)), rfl⟩⟩
 have hb : baseB Q at_ x y s = true := decide_eq_true ⟨hat, hX, hY, hZ⟩
 cases hT : Q.T at_ with
 | true =>
   rw [hT] at B1
   by_cases hL : Q.L at_ = 0
   · have hd0 : d = 0 := by
       rcases Nat.eq_zero_or_pos d with h | h
       · exact h
       · exact absurd ⟨hb, hT, h, hL⟩ hcase
     subst hd0
     have z0 := B0.c 0 rfl; have y0 := B0.f 0 rfl; have z1 := B0.c 1 rfl; have y1 := B0.f 1 rfl; have z2 := B0.c 2 rfl; have y2 := B0.f 2 rfl; have z3 := B0.c 3 rfl; have y3 := B0.f 3 rfl; have z4 := B0.c 4 rfl; have y4 := B0.f 4 rfl; have m0 := B1.c 0 rfl; have m1 := B1.c 1 rfl; have m2 := B1.c 2 rfl; have m3 := B1.c 3 rfl; have m4 := B1.c 4 rfl
     rw [hX] at m0; rw [hY] at m1; rw [hZ] at m2
     have BF := z5_set B0
     clear B0 B1 HI HBl
     go_wp2
     have r0 := BF.out.c 0 rfl; have r1 := BF.out.c 1 rfl; have r2 := BF.out.c 2 rfl; have r3 := BF.out.c 3 rfl; have r4 := BF.out.c 4 rfl
     refine bodyPost_ret (v := .tuple #[.agg #[.int .i64 0, .int .i64 0, .int .i64 0, .slice none 0 0, .slice none 0 0], .int .i64 0, .bool false]) (by simp [results, Try.results58, go_sem, r0, r1, r2, r3, r4]) rfl ?_
     exact ⟨(((((Below.setCell HBA (Nat.le_refl _) _).setCell (Nat.le_refl _) _).setCell (Nat.le_refl _) _).setCell (Nat.le_refl _) _).setCell (Nat.le_refl _) _), .inl ⟨mrd_zero hT, rfl⟩⟩
   · have hLI : (0 : Int) < Q.L at_ := by omega
     rcases Nat.eq_zero_or_pos d with hd0 | hd0
     · subst hd0
       have z0 := B0.c 0 rfl; have y0 := B0.f 0 rfl; have z1 := B0.c 1 rfl; have y1 := B0.f 1 rfl; have z2 := B0.c 2 rfl; have y2 := B0.f 2 rfl; have z3 := B0.c 3 rfl; have y3 := B0.f 3 rfl; have z4 := B0.c 4 rfl; have y4 := B0.f 4 rfl; have m0 := B1.c 0 rfl; have m1 := B1.c 1 rfl; have m2 := B1.c 2 rfl; have m3 := B1.c 3 rfl; have m4 := B1.c 4 rfl
       rw [hX] at m0; rw [hY] at m1; rw [hZ] at m2
       have BF := z5_set B0
       clear B0 B1 HI HBl
       go_wp2
       have r0 := BF.out.c 0 rfl; have r1 := BF.out.c 1 rfl; have r2 := BF.out.c 2 rfl; have r3 := BF.out.c 3 rfl; have r4 := BF.out.c 4 rfl
       refine bodyPost_ret (v := .tuple #[.agg #[.int .i64 0, .int .i64 0, .int .i64 0, .slice none 0 0, .slice none 0 0], .int .i64 0, .bool false]) (by simp [results, Try.results58, go_sem, r0, r1, r2, r3, r4]) rfl ?_
       exact ⟨(((((Below.setCell HBA (Nat.le_refl _) _).setCell (Nat.le_refl _) _).setCell (Nat.le_refl _) _).setCell (Nat.le_refl _) _).setCell (Nat.le_refl _) _), .inl ⟨mrd_zero hT, rfl⟩⟩
     · have hdI2 : ¬ ((d : Int) < 1) := by omega
       have z0 := B0.c 0 rfl; have y0 := B0.f 0 rfl; have z1 := B0.c 1 rfl; have y1 := B0.f 1 rfl; have z2 := B0.c 2 rfl; have y2 := B0.f 2 rfl; have z3 := B0.c 3 rfl; have y3 := B0.f 3 rfl; have z4 := B0.c 4 rfl; have y4 := B0.f 4 rfl; have m0 := B1.c 0 rfl; have m1 := B1.c 1 rfl; have m2 := B1.c 2 rfl; have m3 := B1.c 3 rfl; have m4 := B1.c 4 rfl
       rw [hX] at m0; rw [hY] at m1; rw [hZ] at m2
       have BF := z5_set B0
       clear B0 B1 HI HBl
       go_wp2
       have r0 := BF.out.c 0 rfl; have r1 := BF.out.c 1 rfl; have r2 := BF.out.c 2 rfl; have r3 := BF.out.c 3 rfl; have r4 := BF.out.c 4 rfl
       refine bodyPost_ret (v := .tuple #[.agg #[.int .i64 0, .int .i64 0, .int .i64 0, .slice none 0 0, .slice none 0 0], .int .i64 0, .bool false]) (by simp [results, Try.results58, go_sem, r0, r1, r2, r3, r4]) rfl ?_
       exact ⟨(((((Below.setCell HBA (Nat.le_refl _) _).setCell (Nat.le_refl _) _).setCell (Nat.le_refl _) _).setCell (Nat.le_refl _) _).setCell (Nat.le_refl _) _), .inl ⟨mrd_full hT hL, rfl⟩⟩
 | false =>
   rw [hT] at B1
   have z0 := B0.c 0 rfl; have y0 := B0.f 0 rfl; have z1 := B0.c 1 rfl; have y1 := B0.f 1 rfl; have z2 := B0.c 2 rfl; have y2 := B0.f 2 rfl; have z3 := B0.c 3 rfl; have y3 := B0.f 3 rfl; have z4 := B0.c 4 rfl; have y4 := B0.f 4 rfl; have m0 := B1.c 0 rfl; have m1 := B1.c 1 rfl; have m2 := B1.c 2 rfl; have m3 := B1.c 3 rfl; have m4 := B1.c 4 rfl
   rw [hX] at m0; rw [hY] at m1; rw [hZ] at m2
   have HBW := HBA
   have m9 := (B1.alloc (.cells #[] 2)).c 4 rfl
   go_wp2_with (at_builtin; go_loud (refine wpList_append_ids rfl _ _ rfl W1.heap.size _ rfl (World.ownsRow_made W1 #[] 0 (Nat.le_refl _) (by decide) rfl) (blL Q at_) (so at_).1 (so at_).2 (by rw [blL_len]; rfl) (HI.step ((Below.refl _ _).alloc (Nat.le_refl _) _)) (hso at_ hat) (by rw [blL_len]; exact hL8) (by simp) ?_))
   intro v w2 r1 r2 r4
   obtain ⟨ao, c, rfl, hNi, hn0, hok⟩ := IdV.of r1
   have HB2 : Below W1.heap.size W1 w2 := ((Below.refl _ _).alloc (Nat.le_refl _) _).grown r2 (by simp) (fun k hk => by cases hk; exact Nat.le_refl _)
   replace B0 := (B0.step HB2).alloc (.cells #[.int .i64 x, .int .i64 y, .int .i64 s, .slice none 0 0, .slice ao (blL Q at_).length c] 64)
   replace B1 := (B1.step HB2).alloc (.cells #[.int .i64 x, .int .i64 y, .int .i64 s, .slice none 0 0, .slice ao (blL Q at_).length c] 64)
   have B2 : Blk (w2.alloc (.cells #[.int .i64 x, .int .i64 y, .int .i64 s, .slice none 0 0, .slice ao (blL Q at_).length c] 64)) w2.heap.size [.int .i64 x, .int .i64 y, .int .i64 s, .slice none 0 0, .slice ao (blL Q at_).length c] := Blk.new w2 [.int .i64 x, .int .i64 y, .int .i64 s, .slice none 0 0, .slice ao (blL Q at_).length c] 64 rfl
   replace HBA := (HBA.trans (HB2.mono HBA.size)).alloc (Nat.le_trans HBA.size HB2.size) (.cells #[.int .i64 x, .int .i64 y, .int .i64 s, .slice none 0 0, .slice ao (blL Q at_).length c] 64)
   have hI5 : IdV (fun b => W1.heap.size ≤ b ∧ b < w2.heap.size) (w2.alloc (.cells #[.int .i64 x, .int .i64 y, .int .i64 s, .slice none 0 0, .slice ao (blL Q at_).length c] 64)) (.slice ao (blL Q at_).length c) (blL Q at_) := IdV.step ⟨_, _, rfl, hNi, hn0, fun A o sp e => ⟨⟨(hok A o sp e).1, (hok A o sp e).2⟩, (hok A o sp e).2⟩⟩ ((Below.refl _ _).alloc (Nat.le_refl _) _)
   have hWsz : Hid (w.heap.size < W1.heap.size) := by show w.heap.size < W1.heap.size; have := hsz.out; omega
   have HSZ : Hid (w2.heap.size = W1.heap.size + 1 ∨ w.heap.size + 2 < w2.heap.size) := .inr (by have h := r2.size; have := hsz.out; simp at h; omega)
   clear r1 r2 r4 hNi m9 HB2 HI HBW
   clear z0 z1 z2 z3 z4 y0 y1 y2 y3 y4 m0 m1 m2 m3 m4
   go_upto_region 8 with fail
   generalize (w2.alloc (.cells #[.int .i64 x, .int .i64 y, .int .i64 s, .slice none 0 0, .slice ao (blL Q at_).length c] 64)) = W3 at *
   have z0 := B0.c 0 rfl; have z1 := B0.c 1 rfl; have z2 := B0.c 2 rfl; have z3 := B0.c 3 rfl; have z4 := B0.c 4 rfl; have y0 := B0.f 0 rfl; have y1 := B0.f 1 rfl; have y2 := B0.f 2 rfl; have y3 := B0.f 3 rfl; have y4 := B0.f 4 rfl
   have n0 := B2.c 0 rfl; have n1 := B2.c 1 rfl; have n2 := B2.c 2 rfl; have n3 := B2.c 3 rfl; have n4 := B2.c 4 rfl
   have m3 := B1.c 3 rfl
   have BF : Hid (Blk (((((W3.setCell ⟨w.heap.size, 0, none⟩ (.int .i64 x)).setCell ⟨w.heap.size, 1, none⟩ (.int .i64 y)).setCell ⟨w.heap.size, 2, none⟩ (.int .i64 s)).setCell ⟨w.heap.size, 3, none⟩ (.slice none 0 0)).setCell ⟨w.heap.size, 4, none⟩ (.slice ao (blL Q at_).length c)) w.heap.size [.int .i64 x, .int .i64 y, .int .i64 s, .slice none 0 0, .slice ao (blL Q at_).length c]) := ((((B0.setI 0 (by decide) _).setI 1 (by simp) _).setI 2 (by simp) _).setI 3 (by simp) _).setI 4 (by simp) _
   have hWl : w.heap.size < W3.heap.size := B0.lt
   clear B0 B1 B2
   go_wp2
   have r0 := BF.out.c 0 rfl; have r1 := BF.out.c 1 rfl; have r2 := BF.out.c 2 rfl; have r3 := BF.out.c 3 rfl; have r4 := BF.out.c 4 rfl
   refine bodyPost_ret (v := .tuple #[.agg #[.int .i64 x, .int .i64 y, .int .i64 s, .slice none 0 0, .slice ao (blL Q at_).length c], .int .i64 ((at_ : Int) + 1), .bool true]) (by simp [results, Try.results58, go_sem, r0, r1, r2, r3, r4]) rfl ?_
   refine ⟨(((((Below.setCell HBA (Nat.le_refl _) _).setCell (Nat.le_refl _) _).setCell (Nat.le_refl _) _).setCell (Nat.le_refl _) _).setCell (Nat.le_refl _) _), .inr ⟨at_ + 1, _, _, mrd_leaf hb hT, by rw [Int.natCast_add]; rfl, ?_⟩⟩
   rw [trQ_leaf hT]
   exact ⟨rfl, hI5.keep (by simp [World.setCell]) (fun b hb _ => z5_other (by have := hWsz.out; have := hb.1; omega)) (fun b hb _ => by have := hWsz.out; have := hb.1; omega)⟩
def rtT (Q : QD) : QT → Int → Int → Int → Bool
 | .leaf l, x, y, s => decide (l = idL Q (flQ Q (List.range Q.m) x y s))
 | .node K, x, y, s => (List.range 4).all fun k => rtT Q (K k) (kX x (s / 2) k) (kY y (s / 2) k) (s / 2)
def lenT : QT → Prop
 | .leaf l => l.length ≤ 1048576
 | .node K => ∀ k, k < 4 → lenT (K k)
theorem rt_tr (Q : QD) : ∀ d at_ x y s, (mrd Q d at_ x y s).isSome → rtB Q d at_ x y s = rtT Q (trQ Q d at_ x y s) x y s
 | 0, _, _, _, _, _ => rfl
 | d + 1, at_, x, y, s, h => by
   unfold rtB trQ
   by_cases hT : Q.T at_ = true
   · rw [if_pos hT, if_pos hT]
     have hb : baseB Q at_ x y s = true := by
       cases hb : baseB Q at_ x y s with
       | true => rfl
       | false => rw [mrd_no hb] at h; cases h
     have hL : Q.L at_ = 0 := by
       apply Classical.byContradiction
       intro hL
       rw [show mrd Q (d + 1) at_ x y s = if baseB Q at_ x y s = true then (if Q.T at_ = true then (if Q.L at_ = 0 then kp (fun a x y => mrd Q d a x y (s / 2)) (at_ + 1) x y (s / 2) 4 else none) else some (at_ + 1)) else none from rfl, if_pos hb, if_pos hT, if_neg hL] at h
       cases h
     rw [show mrd Q (d + 1) at_ x y s = if baseB Q at_ x y s = true then (if Q.T at_ = true then (if Q.L at_ = 0 then kp (fun a x y => mrd Q d a x y (s / 2)) (at_ + 1) x y (s / 2) 4 else none) else some (at_ + 1)) else none from rfl, if_pos hb, if_pos hT, if_pos hL] at h
     have hk : ∀ k, k < 4 → ∃ a, kp (fun a x y => mrd Q d a x y (s / 2)) (at_ + 1) x y (s / 2) k = some a ∧ (mrd Q d a (kX x (s / 2) k) (kY y (s / 2) k) (s / 2)).isSome := by
       have step : ∀ k, (kp (fun a x y => mrd Q d a x y (s / 2)) (at_ + 1) x y (s / 2) (k + 1)).isSome → ∃ a, kp (fun a x y => mrd Q d a x y (s / 2)) (at_ + 1) x y (s / 2) k = some a ∧ (mrd Q d a (kX x (s / 2) k) (kY y (s / 2) k) (s / 2)).isSome := by
         intro k hk
         have e : kp (fun a x y => mrd Q d a x y (s / 2)) (at_ + 1) x y (s / 2) (k + 1) = (kp (fun a x y => mrd Q d a x y (s / 2)) (at_ + 1) x y (s / 2) k).bind fun a => mrd Q d a (kX x (s / 2) k) (kY y (s / 2) k) (s / 2) := rfl
         rw [e] at hk
         cases h : kp (fun a x y => mrd Q d a x y (s / 2)) (at_ + 1) x y (s / 2) k with
         | none => rw [h] at hk; cases hk
         | some a => rw [h] at hk; exact ⟨a, rfl, hk⟩
       have down : ∀ j k, j + k = 3 → ∃ a, kp (fun a x y => mrd Q d a x y (s / 2)) (at_ + 1) x y (s / 2) k = some a ∧ (mrd Q d a (kX x (s / 2) k) (kY y (s / 2) k) (s / 2)).isSome := by
         intro j
         induction j with
         | zero => intro k hk; obtain rfl : k = 3 := by omega
                   exact step 3 h
         | succ j ih => intro k hk; obtain ⟨a, h1, _⟩ := ih (k + 1) (by omega)
                        exact step k (by rw [h1]; rfl)
       intro k hk4
       exact down (3 - k) k (by omega)
     unfold rtT
     rw [Bool.eq_iff_iff, List.all_eq_true, List.all_eq_true]
     constructor
     · intro h1 k hj
       obtain ⟨a, h2, h3⟩ := hk _ (List.mem_range.1 hj)
       have h4 := h1 k hj
       try dsimp only at h4
       try dsimp only
       rw [h2] at h4 ⊢
       simp only [Option.getD_some]
       rw [← rt_tr Q d a _ _ _ h3]
       exact h4
     · intro h1 k hj
       obtain ⟨a, h2, h3⟩ := hk _ (List.mem_range.1 hj)
       have h4 := h1 k hj
       try dsimp only at h4
       try dsimp only
       rw [h2] at h4 ⊢
       simp only [Option.getD_some] at h4
       rw [← rt_tr Q d a _ _ _ h3] at h4
       exact h4
   · rw [if_neg hT, if_neg hT]
     rfl
theorem fl_hit {Q : QD} {x y s : Int} {c : Nat} (h : hitQ Q x y s c = true) : idL Q (flQ Q (List.range (c + 1)) x y s) = (idL Q (flQ Q (List.range c) x y s)) ++ [Q.I c] := by
 unfold flQ idL
 rw [List.range_succ, List.filter_append, List.map_append]
 simp [h]
theorem fl_miss {Q : QD} {x y s : Int} {c : Nat} (h : hitQ Q x y s c = false) : idL Q (flQ Q (List.range (c + 1)) x y s) = (idL Q (flQ Q (List.range c) x y s)) := by
 unfold flQ idL
 rw [List.range_succ, List.filter_append, List.map_append]
 simp [h]
theorem fl_pre {Q : QD} {x y s : Int} {c m : Nat} (h : c ≤ m) : (idL Q (flQ Q (List.range c) x y s)) <+: idL Q (flQ Q (List.range m) x y s) := by
 have h1 : List.range c <+: List.range m := by
   have := List.take_prefix c (List.range m)
   rwa [List.take_range, Nat.min_eq_left h] at this
 exact (h1.filter _).map _
theorem leaf_short {Q : QD} {x y s : Int} {c m : Nat} {l : List Int} (hc : c < m) (h : hitQ Q x y s c = true) (hl : l.length ≤ (idL Q (flQ Q (List.range c) x y s)).length) : l ≠ idL Q (flQ Q (List.range m) x y s) := by
 intro e
 have h1 := (fl_pre (Q := Q) (x := x) (y := y) (s := s) (show c + 1 ≤ m from hc)).length_le
 rw [fl_hit h, ← e, List.length_append] at h1
 simp at h1
 omega
theorem leaf_other {Q : QD} {x y s : Int} {c m n : Nat} {l : List Int} (hc : c < m) (h : hitQ Q x y s c = true) (hn : n = (idL Q (flQ Q (List.range c) x y s)).length) (hne : l.getD n 0 ≠ Q.I c) : l ≠ idL Q (flQ Q (List.range m) x y s) := by
 intro e
 obtain ⟨r, h1⟩ := fl_pre (Q := Q) (x := x) (y := y) (s := s) (show c + 1 ≤ m from hc)
 rw [fl_hit h, ← e] at h1
 apply hne
 rw [← h1, hn, List.getD_eq_getElem?_getD, List.append_assoc, List.getElem?_append_right (Nat.le_refl _)]
 simp
theorem leaf_next {Q : QD} {x y s : Int} {c n : Nat} {l : List Int} (h : hitQ Q x y s c = true) (ht : l.take n = (idL Q (flQ Q (List.range c) x y s))) (hl : n < l.length) (he : l.getD n 0 = Q.I c) : l.take (n + 1) = idL Q (flQ Q (List.range (c + 1)) x y s) := by
 rw [fl_hit h, List.take_add_one, ht, ← he, List.getD_eq_getElem?_getD, List.getElem?_eq_getElem hl]
 rfl
theorem leaf_end {Q : QD} {x y s : Int} {n : Nat} {l : List Int} (hn : n ≤ l.length) (ht : l.take n = idL Q (flQ Q (List.range Q.m) x y s)) : rtT Q (.leaf l) x y s = decide ((n : Int) = l.length) := by
 unfold rtT
 apply decide_eq_decide.2
 constructor
 · intro e
   have h1 := congrArg List.length ht
   rw [← e, List.length_take, Nat.min_eq_left hn] at h1
   omega
 · intro e
   obtain rfl : n = l.length := by omega
   rw [← ht, List.take_length]
set_option maxRecDepth 100000 in
set_option maxHeartbeats 8000000 in
theorem treeRight_leaf (Q : QD) (ao : Option Addr) (cap : Nat) (h6 : Its6 Q (List.range Q.m)) (hm : Q.m ≤ 1048576) (l : List Int) (x y s : Int) (eo : Option Addr) (ec : Nat) (hq : Sq x y s) (hl : l.length ≤ 1048576) (w : World) (hN : NoIn w eo l.length (fun i => l.getD i 0)) (hS : ItIn Q w ao (List.range Q.m)) : Calls Try.prog 59 #[.agg #[.int .i64 x, .int .i64 y, .int .i64 s, .slice none 0 0, .slice eo l.length ec], .slice ao Q.m cap] w (VP (.bool (rtT Q (.leaf l) x y s)) w) := by
 have B0 : Blk (w.alloc (.cells #[.int .i64 x, .int .i64 y, .int .i64 s, .slice none 0 0, .slice eo l.length ec] 64)) w.heap.size [.int .i64 x, .int .i64 y, .int .i64 s, .slice none 0 0, .slice eo l.length ec] := Blk.new w [.int .i64 x, .int .i64 y, .int .i64 s, .slice none 0 0, .slice eo l.length ec] 64 rfl
 have HB : Below w.heap.size w (w.alloc (.cells #[.int .i64 x, .int .i64 y, .int .i64 s, .slice none 0 0, .slice eo l.length ec] 64)) := (Below.refl _ w).alloc (Nat.le_refl _) _
 have hmI : (Q.m : Int) ≤ 1048576 := by omega
 have hlI : (l.length : Int) ≤ 1048576 := by omega
 have HS : Hid (ItIn Q (w.alloc (.cells #[.int .i64 x, .int .i64 y, .int .i64 s, .slice none 0 0, .slice eo l.length ec] 64)) ao (List.range Q.m)) := hS.step HB
 have HN : Hid (NoIn (w.alloc (.cells #[.int .i64 x, .int .i64 y, .int .i64 s, .slice none 0 0, .slice eo l.length ec] 64)) eo l.length (fun i => l.getD i 0)) := hN.step HB
 clear hN hS
 go_enter Try.func59, Try.ntmps59
 go_upto_region 1 with fail
 generalize (w.alloc (.cells #[.int .i64 x, .int .i64 y, .int .i64 s, .slice none 0 0, .slice eo l.length ec] 64)) = W1 at *
 have m3 := B0.c 3 rfl
 go_wp2_with fail
 clear m3
 go_loopw [6, 7] (fun n i wr => ∃ c : Nat, c ≤ Q.m ∧ i = .int .i64 c ∧ n = .int .i64 ((idL Q (flQ Q (List.range c) x y s)).length : Int) ∧ (idL Q (flQ Q (List.range c) x y s)).length ≤ l.length ∧ l.take (idL Q (flQ Q (List.range c) x y s)).length = (idL Q (flQ Q (List.range c) x y s)) ∧ Blk wr w.heap.size [.int .i64 x, .int .i64 y, .int .i64 s, .slice none 0 0, .slice eo l.length ec] ∧ ItIn Q wr ao (List.range Q.m) ∧ NoIn wr eo l.length (fun i => l.getD i 0) ∧ Below w.heap.size w wr) (fun _ i _ => Q.m - (intOf i).toNat)
 case atStart => exact ⟨0, by omega, rfl, rfl, Nat.zero_le _, rfl, B0, HS.out, HN.out, HB⟩
 case round =>
   clear B0 HS HN HB
   obtain ⟨c, hc, rfl, rfl, hle, htk, B0, hS, hN, HB⟩ := hrel
   obtain ⟨n, hn⟩ : ∃ n, (idL Q (flQ Q (List.range c) x y s)).length = n := ⟨_, rfl⟩
   have HNL : Hid ((idL Q (flQ Q (List.range c) x y s)).length = n) := hn
   have HTK : Hid (l.take n = (idL Q (flQ Q (List.range c) x y s))) := by show _ = _; rw [← hn]; exact htk
   rw [hn] at hle ⊢
   clear hn htk
   have hfl := B0.lt
   by_cases hcm : c < Q.m
   · have hcI : (c : Int) < Q.m := by omega
     obtain ⟨A, off, rfl, hA, c0, c1, c2, c3, c4⟩ := hS c c (by simp [hcm])
     obtain ⟨s1, s2, s3, s4⟩ := h6 c (List.mem_range.2 hcm)
     have HS : Hid (ItIn Q wr (some ⟨A, off, none⟩) (List.range Q.m)) := hS
     have HN : Hid (NoIn wr eo l.length (fun i => l.getD i 0)) := hN
     clear hS hN
     go_upto_region 12 with fail
     refine qlA (A := A) (off := off) (n := Q.m) (cap := cap) (c := c) (x := x) (y := y) (s := s) (ko := none) (eo := eo) (kn := 0) (kc := 0) (en := l.length) (ec := ec) (a := (Q.S c).1) (bb := (Q.S c).2.1) (cc := (Q.S c).2.2.1) (d := (Q.S c).2.2.2) (F := w.heap.size) hcm hm hq s1 s2 s3 s4 rfl rfl rfl (B0.c 0 rfl) hfl (B0.c 1 rfl) hfl (B0.c 2 rfl) hfl (B0.c 3 rfl) hfl (B0.c 4 rfl) hfl c1 hA c2 hA c3 hA c4 hA rfl ?_
     rintro ⟨tm, df⟩ Wz hz hdf hoff h37 hBz
     simp only at hz hdf hoff h37
     change tm.getD 37 undef = .bool (!hitQ Q x y s c) at h37
     subst hdf
     have htm := tmps_fold [30, 31, 32, 33, 34, 35, 36, 37] tm _ hz hoff
     simp only [List.foldl, List.setIfInBounds_toArray, List.set_cons_zero, List.set_cons_succ, h37] at htm
     clear hz hoff
     generalize tm.getD 30 undef = pz0, tm.getD 31 undef = pz1, tm.getD 32 undef = pz2, tm.getD 33 undef = pz3, tm.getD 34 undef = pz4, tm.getD 35 undef = pz5, tm.getD 36 undef = pz6 at htm
     clear h37
     subst htm
     replace B0 := B0.step hBz
     replace HB := HB.trans (hBz.mono HB.size)
     replace HS : Hid (ItIn Q Wz (some ⟨A, off, none⟩) (List.range Q.m)) := HS.out.step hBz
     replace HN : Hid (NoIn Wz eo l.length (fun i => l.getD i 0)) := HN.out.step hBz
     clear hBz c0 c1 c2 c3 c4 s1 s2 s3 s4
     have hfz := B0.lt
     cases hh : hitQ Q x y s c with
     | false =>
       have hlen : Hid (n = (idL Q (flQ Q (List.range (c + 1)) x y s)).length) := by show _ = _; rw [fl_miss hh, HNL.out]
       have HTM : Hid (l.take n = idL Q (flQ Q (List.range (c + 1)) x y s)) := by show _ = _; rw [fl_miss hh]; exact HTK.out
       clear hh
       go_wp2
       go_roundw
       case rel => exact ⟨c + 1, by omega, by go_num, by rw [← hlen.out], by rw [← hlen.out]; exact hle, by rw [← hlen.out]; exact HTM.out, B0, HS.out, HN.out, HB⟩
       case measure => simp [intOf]; omega
     | true =>
       have HH : Hid (hitQ Q x y s c = true) := hh
       clear hh
       go_upto_region 13 with fail
       by_cases hnl : n < l.length
       · obtain ⟨E0, eoff, rfl, hE, hec⟩ := HN.out n hnl
         obtain ⟨A2, o2, e2, hA2, d0, _⟩ := HS.out c c (by simp [hcm])
         cases e2
         refine qlC (F := w.heap.size) (A := A) (off := off) (n := Q.m) (cap := cap) (c := c) (k_ := n) (E0 := E0) (eoff := eoff) (en := l.length) (ec := ec) (ev := l.getD n 0) (iv := Q.I c) hnl hl hcm hm rfl rfl rfl rfl (B0.c 4 rfl) hfz hec hE d0 hA2 rfl ?_
         rintro ⟨tm, df⟩ Wy hz hdf hoff h55 hBy
         simp only at hz hdf hoff h55
         change tm.getD 55 undef = .bool (decide (¬ (l.getD n 0 = Q.I c))) at h55
         subst hdf
         have htm := tmps_fold [38, 39, 40, 41, 42, 43, 44, 45, 46, 47, 48, 49, 50, 51, 52, 53, 54, 55] tm _ hz hoff
         simp only [List.foldl, List.setIfInBounds_toArray, List.set_cons_zero, List.set_cons_succ, h55] at htm
         clear hz hoff
         generalize tm.getD 38 undef = py0, tm.getD 39 undef = py1, tm.getD 40 undef = py2, tm.getD 41 undef = py3, tm.getD 42 undef = py4, tm.getD 43 undef = py5, tm.getD 44 undef = py6, tm.getD 45 undef = py7, tm.getD 46 undef = py8, tm.getD 47 undef = py9, tm.getD 48 undef = py10, tm.getD 49 undef = py11, tm.getD 50 undef = py12, tm.getD 51 undef = py13, tm.getD 52 undef = py14, tm.getD 53 undef = py15, tm.getD 54 undef = py16 at htm
         clear h55
         subst htm
         replace B0 := B0.step hBy
         replace HB := HB.trans (hBy.mono HB.size)
         replace HS : Hid (ItIn Q Wy (some ⟨A, off, none⟩) (List.range Q.m)) := HS.out.step hBy
         replace HN : Hid (NoIn Wy (some ⟨E0, eoff, none⟩) l.length (fun i => l.getD i 0)) := HN.out.step hBy
         clear hBy hec d0
         by_cases hev : l.getD n 0 = Q.I c
         · rw [decide_eq_false (fun h => h hev)]
           have HTN : Hid (l.take (n + 1) = idL Q (flQ Q (List.range (c + 1)) x y s)) := leaf_next HH.out HTK.out hnl hev
           have hlen : Hid (n + 1 = (idL Q (flQ Q (List.range (c + 1)) x y s)).length) := by show _ = _; rw [fl_hit HH.out, List.length_append, HNL.out]; rfl
           have hnI : (n : Int) < l.length := by omega
           clear hev
           go_wp2
           go_roundw
           case rel => exact ⟨c + 1, by omega, by go_num, by rw [← hlen.out]; push_cast; rfl, by rw [← hlen.out]; omega, by rw [← hlen.out]; exact HTN.out, B0, HS.out, HN.out, HB⟩
           case measure => simp [intOf]; omega
         · rw [decide_eq_true hev]
           have hno := leaf_other hcm HH.out HNL.out.symm hev
           clear hev
           go_wp2
           refine bodyPost_ret (v := .bool false) (by simp [results, Try.results59, go_sem]) rfl ?_
           exact ⟨by rw [show rtT Q (.leaf l) x y s = false from decide_eq_false hno], HB⟩
       · refine qlB (F := w.heap.size) (k_ := n) (eo := eo) (en := l.length) (ec := ec) (by omega) rfl rfl (B0.c 4 rfl) hfz rfl ?_
         rintro ⟨tm, df⟩ Wy hz hdf hoff h55 hBy
         simp only at hz hdf hoff h55
         change tm.getD 55 undef = .bool true at h55
         subst hdf
         have htm := tmps_fold [38, 39, 40, 41, 42, 43, 44, 45, 46, 47, 48, 49, 50, 51, 52, 53, 54, 55] tm _ hz hoff
         simp only [List.foldl, List.setIfInBounds_toArray, List.set_cons_zero, List.set_cons_succ, h55] at htm
         clear hz hoff
         generalize tm.getD 38 undef = py0, tm.getD 39 undef = py1, tm.getD 40 undef = py2, tm.getD 41 undef = py3, tm.getD 42 undef = py4, tm.getD 43 undef = py5, tm.getD 44 undef = py6, tm.getD 45 undef = py7, tm.getD 46 undef = py8, tm.getD 47 undef = py9, tm.getD 48 undef = py10, tm.getD 49 undef = py11, tm.getD 50 undef = py12, tm.getD 51 undef = py13, tm.getD 52 undef = py14, tm.getD 53 undef = py15, tm.getD 54 undef = py16 at htm
         clear h55
         subst htm
         replace HB := HB.trans (hBy.mono HB.size)
         have hno := leaf_short (l := l) hcm HH.out (by rw [HNL.out]; omega)
         clear hBy
         go_wp2
         refine bodyPost_ret (v := .bool false) (by simp [results, Try.results59, go_sem]) rfl ?_
         exact ⟨by rw [show rtT Q (.leaf l) x y s = false from decide_eq_false hno], HB⟩
   · obtain rfl : c = Q.m := by omega
     have HE := leaf_end hle HTK.out
     have m4 := B0.c 4 rfl
     clear B0 hS hN HTK
     go_wp2
     go_ret
     exact ⟨by show Ending.returned (Value.bool _) = _; rw [HE]; rfl, HB⟩
end Go.Proofs.Ytjhapeidafbncaa
