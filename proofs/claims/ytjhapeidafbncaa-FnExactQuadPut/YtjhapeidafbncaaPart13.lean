/- Part 13 of the walks that the proof leans on. -/
import Derived.Test.YtjhapeidafbncaaPart7
import Derived.Test.YtjhapeidafbncaaPart12
namespace Go.Proofs.Ytjhapeidafbncaa
open Go.RowKit
set_option maxRecDepth 100000 in
set_option maxHeartbeats 2000000 in
theorem eqBlock_same (x y z : Int) (t : Bool) (ao co : Option Addr) (m mc md : Nat) (e : Nat → Int) (hm : m ≤ 1048576) (w : World) (hA : NoIn w ao m e) (hC : NoIn w co m e) : Calls Try.prog 83 #[.agg #[.int .i64 x, .int .i64 y, .int .i64 z, .bool t, .slice ao m mc], .agg #[.int .i64 x, .int .i64 y, .int .i64 z, .bool t, .slice co m md]] w (VP (.bool true) w) := by
 have B0 := (Blk.new w [.int .i64 x, .int .i64 y, .int .i64 z, .bool t, .slice ao m mc] 55 rfl).alloc (.cells #[.int .i64 x, .int .i64 y, .int .i64 z, .bool t, .slice co m md] 55)
 have B1 := Blk.new (w.alloc (.cells #[.int .i64 x, .int .i64 y, .int .i64 z, .bool t, .slice ao m mc] 55)) [.int .i64 x, .int .i64 y, .int .i64 z, .bool t, .slice co m md] 55 (g := w.heap.size + 1) (by simp)
 have HB := ((Below.refl _ w).alloc (Nat.le_refl _) (.cells #[.int .i64 x, .int .i64 y, .int .i64 z, .bool t, .slice ao m mc] 55)).alloc (by simp) (.cells #[.int .i64 x, .int .i64 y, .int .i64 z, .bool t, .slice co m md] 55)
 have HA := hA.step HB
 have HC := hC.step HB
 have EP := fun w h h' => eqNoS_any ao co m mc md e hm w h h'
 clear hA hC
 go_enter Try.func83, Try.ntmps83
 go_upto_region 1 with fail
 generalize ((w.alloc (.cells #[.int .i64 x, .int .i64 y, .int .i64 z, .bool t, .slice ao m mc] 55)).alloc (.cells #[.int .i64 x, .int .i64 y, .int .i64 z, .bool t, .slice co m md] 55)) = W1 at *
 have p0 := B0.c 0 rfl; have p1 := B0.c 1 rfl; have p2 := B0.c 2 rfl; have p3 := B0.c 3 rfl; have p4 := B0.c 4 rfl
 have q0 := B1.c 0 rfl; have q1 := B1.c 1 rfl; have q2 := B1.c 2 rfl; have q3 := B1.c 3 rfl; have q4 := B1.c 4 rfl
 clear B0 B1
 go_wp2_with fail
 refine (EP _ HA HC).mono ?_
 rintro r w1 ⟨rfl, hB⟩
 have HB2 := HB.trans (hB.mono HB.size)
 clear hB HB p0 p1 p2 p3 p4 q0 q1 q2 q3 q4 EP HA HC
 go_wp2
 go_ret
 exact ⟨rfl, HB2⟩
def VqeJ (A off D od n ca cb c m mc md : Nat) (ao co : Option Addr) (x y z : Int) (t : Bool) (_B : Nat) : Nat → Value → World → Prop
 | 0, v, _ => v = .slice (some ⟨A, off, none⟩) n ca
 | 1, v, _ => v = .int .i64 (c : Int)
 | 2, v, _ => v = .pointer (some ⟨A, off + c * 5, none⟩)
 | 3, v, _ => v = .agg #[.int .i64 x, .int .i64 y, .int .i64 z, .bool t, .slice ao m mc]
 | 4, v, _ => v = .slice (some ⟨D, od, none⟩) n cb
 | 5, v, _ => v = .int .i64 (c : Int)
 | 6, v, _ => v = .pointer (some ⟨D, od + c * 5, none⟩)
 | 7, v, _ => v = .agg #[.int .i64 x, .int .i64 y, .int .i64 z, .bool t, .slice co m md]
 | 8, v, _ => v = .bool true
 | 9, v, _ => v = .bool false
 | _, _, _ => True
theorem VqeJ.mono {A off D od n ca cb c m mc md : Nat} {ao co : Option Addr} {x y z : Int} {t : Bool} {B j : Nat} {v : Value} {W W2 : World} (_hB : Below W.heap.size W W2) (h : VqeJ A off D od n ca cb c m mc md ao co x y z t B j v W) : VqeJ A off D od n ca cb c m mc md ao co x y z t B j v W2 := by
 unfold VqeJ at *
 split <;> simp only at h <;> first | exact h | trivial
set_option maxRecDepth 100000 in
set_option maxHeartbeats 4000000 in
theorem qeJ {Q : Exit → Act → World → Prop} {A off D od n ca cb c m mc md : Nat} {ao co : Option Addr} {x y z : Int} {t : Bool} {e : Nat → Int} {w0 : World} {a0 : Act} {idq : Nat} {t0 t1 t2 t3 t4 t5 t6 t7 t8 t9 : TypeId} {q0 q1 q2 q3 q4 q5 q6 q7 q8 q9 : String}
   (hcn : c < n) (hn : n ≤ 1048576) (hm : m ≤ 1048576) (hNA : NoIn w0 ao m e) (hNB : NoIn w0 co m e) (h0 : a0.tmps[0]? = some (.slice (some ⟨A, off, none⟩) n ca)) (h1 : a0.tmps[1]? = some (.slice (some ⟨D, od, none⟩) n cb)) (h5 : a0.tmps[5]? = some (.int .i64 (c : Int))) (k0 : w0.cell? ⟨A, off + c * 5, none⟩ = some (.int .i64 x)) (l0 : (⟨A, off + c * 5, none⟩ : Addr).block < w0.heap.size) (k1 : w0.cell? ⟨A, off + c * 5 + 1, none⟩ = some (.int .i64 y)) (l1 : (⟨A, off + c * 5 + 1, none⟩ : Addr).block < w0.heap.size) (k2 : w0.cell? ⟨A, off + c * 5 + 2, none⟩ = some (.int .i64 z)) (l2 : (⟨A, off + c * 5 + 2, none⟩ : Addr).block < w0.heap.size) (k3 : w0.cell? ⟨A, off + c * 5 + 3, none⟩ = some (.bool t)) (l3 : (⟨A, off + c * 5 + 3, none⟩ : Addr).block < w0.heap.size) (k4 : w0.cell? ⟨A, off + c * 5 + 4, none⟩ = some (.slice ao m mc)) (l4 : (⟨A, off + c * 5 + 4, none⟩ : Addr).block < w0.heap.size) (k5 : w0.cell? ⟨D, od + c * 5, none⟩ = some (.int .i64 x)) (l5 : (⟨D, od + c * 5, none⟩ : Addr).block < w0.heap.size) (k6 : w0.cell? ⟨D, od + c * 5 + 1, none⟩ = some (.int .i64 y)) (l6 : (⟨D, od + c * 5 + 1, none⟩ : Addr).block < w0.heap.size) (k7 : w0.cell? ⟨D, od + c * 5 + 2, none⟩ = some (.int .i64 z)) (l7 : (⟨D, od + c * 5 + 2, none⟩ : Addr).block < w0.heap.size) (k8 : w0.cell? ⟨D, od + c * 5 + 3, none⟩ = some (.bool t)) (l8 : (⟨D, od + c * 5 + 3, none⟩ : Addr).block < w0.heap.size) (k9 : w0.cell? ⟨D, od + c * 5 + 4, none⟩ = some (.slice co m md)) (l9 : (⟨D, od + c * 5 + 4, none⟩ : Addr).block < w0.heap.size) (hz : a0.tmps.size = 27)
   (hQ : ∀ aq W, aq.tmps.size = a0.tmps.size → aq.defers = a0.defers → (∀ e, e ∉ ([17, 18, 19, 20, 21, 22, 23, 24, 25, 26] : List Nat) → aq.tmps[e]? = a0.tmps[e]?) → VqeJ A off D od n ca cb c m mc md ao co x y z t w0.heap.size 9 (aq.tmps.getD 26 undef) W → Below w0.heap.size w0 W → Q .normal aq W) :
   (Code.region idq #[{ dst := some 17, op := Op.move (Operand.tmp 0), type := t0, pos := q0, after := #[], guard := none },
   { dst := some 18, op := Op.move (Operand.tmp 5), type := t1, pos := q1, after := #[], guard := none },
   { dst := some 19, op := Op.indexAddr 32 (Operand.tmp 17) (Operand.tmp 18), type := t2, pos := q2, after := #[{ on := 0, ground := Ground.data }, { on := 1, ground := Ground.data }], guard := none },
   { dst := some 20, op := Op.load 55 (Operand.tmp 19), type := t3, pos := q3, after := #[{ on := 2, ground := Ground.data }], guard := none },
   { dst := some 21, op := Op.move (Operand.tmp 1), type := t4, pos := q4, after := #[], guard := none },
   { dst := some 22, op := Op.move (Operand.tmp 5), type := t5, pos := q5, after := #[], guard := none },
   { dst := some 23, op := Op.indexAddr 32 (Operand.tmp 21) (Operand.tmp 22), type := t6, pos := q6, after := #[{ on := 4, ground := Ground.data }, { on := 5, ground := Ground.data }], guard := none },
   { dst := some 24, op := Op.load 55 (Operand.tmp 23), type := t7, pos := q7, after := #[{ on := 6, ground := Ground.data }], guard := none },
   { dst := some 25, op := Op.call { callee := Callee.value (Operand.func 83), args := #[Operand.tmp 20, Operand.tmp 24], argTypes := #[55, 55] }, type := t8, pos := q8, after := #[{ on := 3, ground := Ground.data }, { on := 7, ground := Ground.data }], guard := none },
   { dst := some 26, op := Op.unOp UnOp.not 4 (Operand.tmp 25), type := t9, pos := q9, after := #[{ on := 8, ground := Ground.data }], guard := none }] true).wp Try.prog Q a0 w0 := by
 have hS : distS [some 17, some 18, some 19, some 20, some 21, some 22, some 23, some 24, some 25, some 26] = true := rfl
 refine wp_region_q (by kernel_rfl) w0.heap.size [some 17, some 18, some 19, some 20, some 21, some 22, some 23, some 24, some 25, some 26] (VqeJ A off D od n ca cb c m mc md ao co x y z t w0.heap.size) rfl ?_ ?_
 · intro Q lq aq W iq oq hJ hl ho hall
   have hJ2 := hJ
   obtain ⟨z1, z2, z3, z4, z5, z6, z7⟩ := hJ
   have g0 : aq.tmps.getD 0 undef = .slice (some ⟨A, off, none⟩) n ca := by rw [Array.getD_eq_getD_getElem?, z4 0 (by decide), h0]; rfl
   have g1 : aq.tmps.getD 1 undef = .slice (some ⟨D, od, none⟩) n cb := by rw [Array.getD_eq_getD_getElem?, z4 1 (by decide), h1]; rfl
   have g5 : aq.tmps.getD 5 undef = .int .i64 (c : Int) := by rw [Array.getD_eq_getD_getElem?, z4 5 (by decide), h5]; rfl
   have c0 : W.cell? ⟨A, off + c * 5, none⟩ = some (.int .i64 x) := (z5.cell l0).trans k0
   have c1 : W.cell? ⟨A, off + c * 5 + 1, none⟩ = some (.int .i64 y) := (z5.cell l1).trans k1
   have c2 : W.cell? ⟨A, off + c * 5 + 2, none⟩ = some (.int .i64 z) := (z5.cell l2).trans k2
   have c3 : W.cell? ⟨A, off + c * 5 + 3, none⟩ = some (.bool t) := (z5.cell l3).trans k3
   have c4 : W.cell? ⟨A, off + c * 5 + 4, none⟩ = some (.slice ao m mc) := (z5.cell l4).trans k4
   have c5 : W.cell? ⟨D, od + c * 5, none⟩ = some (.int .i64 x) := (z5.cell l5).trans k5
   have c6 : W.cell? ⟨D, od + c * 5 + 1, none⟩ = some (.int .i64 y) := (z5.cell l6).trans k6
   have c7 : W.cell? ⟨D, od + c * 5 + 2, none⟩ = some (.int .i64 z) := (z5.cell l7).trans k7
   have c8 : W.cell? ⟨D, od + c * 5 + 3, none⟩ = some (.bool t) := (z5.cell l8).trans k8
   have c9 : W.cell? ⟨D, od + c * 5 + 4, none⟩ = some (.slice co m md) := (z5.cell l9).trans k9
   match iq, ho with
   | 0, ho =>
     cases ho
     refine wpOp_of rfl rfl ?_
     have hK := fun (v : Value) (W2 : World) hW hT hv => hJ2.put hS 0 17 rfl (by omega) (W' := W2) hW hT v hv
     clear ho hall hl hQ
     generalize InvQ _ _ _ w0 a0 (lq.setIfInBounds 0 true) = K at hK ⊢
     clear hJ2 hS z1 z2 z3 z4 z6 z7
     go_simp
     exact hK _ _ z5 (fun _ _ h => h) rfl
   | 1, ho =>
     cases ho
     refine wpOp_of rfl rfl ?_
     have hK := fun (v : Value) (W2 : World) hW hT hv => hJ2.put hS 1 18 rfl (by omega) (W' := W2) hW hT v hv
     clear ho hall hl hQ
     generalize InvQ _ _ _ w0 a0 (lq.setIfInBounds 1 true) = K at hK ⊢
     clear hJ2 hS z1 z2 z3 z4 z6 z7
     go_simp
     exact hK _ _ z5 (fun _ _ h => h) rfl
   | 2, ho =>
     cases ho
     refine wpOp_of rfl rfl ?_
     have f0 : (aq.tmps.getD 17 undef) = .slice (some ⟨A, off, none⟩) n ca := z6 0 17 (hall { on := 0, ground := Ground.data } (by simp) rfl) rfl
     have f1 : (aq.tmps.getD 18 undef) = .int .i64 (c : Int) := z6 1 18 (hall { on := 1, ground := Ground.data } (by simp) rfl) rfl
     have hcI : (c : Int) < n := by omega
     have hnI : (n : Int) ≤ 1048576 := by omega
     have hK := fun (v : Value) (W2 : World) hW hT hv => hJ2.put hS 2 19 rfl (by omega) (W' := W2) hW hT v hv
     clear ho hall hl hQ
     generalize InvQ _ _ _ w0 a0 (lq.setIfInBounds 2 true) = K at hK ⊢
     clear hJ2 hS z1 z2 z3 z4 z6 z7
     go_simp
     exact hK _ _ z5 (fun _ _ h => h) rfl
   | 3, ho =>
     cases ho
     refine wpOp_of rfl rfl ?_
     have f2 : (aq.tmps.getD 19 undef) = .pointer (some ⟨A, off + c * 5, none⟩) := z6 2 19 (hall { on := 2, ground := Ground.data } (by simp) rfl) rfl
     have hK := fun (v : Value) (W2 : World) hW hT hv => hJ2.put hS 3 20 rfl (by omega) (W' := W2) hW hT v hv
     clear ho hall hl hQ
     generalize InvQ _ _ _ w0 a0 (lq.setIfInBounds 3 true) = K at hK ⊢
     clear hJ2 hS z1 z2 z3 z4 z6 z7
     go_simp
     exact hK _ _ z5 (fun _ _ h => h) rfl
   | 4, ho =>
     cases ho
     refine wpOp_of rfl rfl ?_
     have hK := fun (v : Value) (W2 : World) hW hT hv => hJ2.put hS 4 21 rfl (by omega) (W' := W2) hW hT v hv
     clear ho hall hl hQ
     generalize InvQ _ _ _ w0 a0 (lq.setIfInBounds 4 true) = K at hK ⊢
     clear hJ2 hS z1 z2 z3 z4 z6 z7
     go_simp
     exact hK _ _ z5 (fun _ _ h => h) rfl
   | 5, ho =>
     cases ho
     refine wpOp_of rfl rfl ?_
     have hK := fun (v : Value) (W2 : World) hW hT hv => hJ2.put hS 5 22 rfl (by omega) (W' := W2) hW hT v hv
     clear ho hall hl hQ
     generalize InvQ _ _ _ w0 a0 (lq.setIfInBounds 5 true) = K at hK ⊢
     clear hJ2 hS z1 z2 z3 z4 z6 z7
     go_simp
     exact hK _ _ z5 (fun _ _ h => h) rfl
   | 6, ho =>
     cases ho
     refine wpOp_of rfl rfl ?_
     have f4 : (aq.tmps.getD 21 undef) = .slice (some ⟨D, od, none⟩) n cb := z6 4 21 (hall { on := 4, ground := Ground.data } (by simp) rfl) rfl
     have f5 : (aq.tmps.getD 22 undef) = .int .i64 (c : Int) := z6 5 22 (hall { on := 5, ground := Ground.data } (by simp) rfl) rfl
     have hcI : (c : Int) < n := by omega
     have hnI : (n : Int) ≤ 1048576 := by omega
     have hK := fun (v : Value) (W2 : World) hW hT hv => hJ2.put hS 6 23 rfl (by omega) (W' := W2) hW hT v hv
     clear ho hall hl hQ
     generalize InvQ _ _ _ w0 a0 (lq.setIfInBounds 6 true) = K at hK ⊢
     clear hJ2 hS z1 z2 z3 z4 z6 z7
     go_simp
     exact hK _ _ z5 (fun _ _ h => h) rfl
   | 7, ho =>
     cases ho
     refine wpOp_of rfl rfl ?_
     have f6 : (aq.tmps.getD 23 undef) = .pointer (some ⟨D, od + c * 5, none⟩) := z6 6 23 (hall { on := 6, ground := Ground.data } (by simp) rfl) rfl
     have hK := fun (v : Value) (W2 : World) hW hT hv => hJ2.put hS 7 24 rfl (by omega) (W' := W2) hW hT v hv
     clear ho hall hl hQ
     generalize InvQ _ _ _ w0 a0 (lq.setIfInBounds 7 true) = K at hK ⊢
     clear hJ2 hS z1 z2 z3 z4 z6 z7
     go_simp
     exact hK _ _ z5 (fun _ _ h => h) rfl
   | 8, ho =>
     cases ho
     refine wpOp_of rfl rfl ?_
     have f3 : (aq.tmps.getD 20 undef) = .agg #[.int .i64 x, .int .i64 y, .int .i64 z, .bool t, .slice ao m mc] := z6 3 20 (hall { on := 3, ground := Ground.data } (by simp) rfl) rfl
     have f7 : (aq.tmps.getD 24 undef) = .agg #[.int .i64 x, .int .i64 y, .int .i64 z, .bool t, .slice co m md] := z6 7 24 (hall { on := 7, ground := Ground.data } (by simp) rfl) rfl
     have hK := fun (v : Value) (W2 : World) hW hT hv => hJ2.put hS 8 25 rfl (by omega) (W' := W2) hW hT v hv
     clear ho hall hl hQ
     generalize InvQ _ _ _ w0 a0 (lq.setIfInBounds 8 true) = K at hK ⊢
     clear hJ2 hS z1 z2 z3 z4 z6 z7
     go_simp
     refine (eqBlock_same x y z t ao co m mc md e hm W (hNA.step z5) (hNB.step z5)).mono ?_
     rintro e v1 ⟨rfl, hBv⟩
     exact hK _ _ (z5.trans (hBv.mono z5.size)) (fun j v h => h.mono hBv) rfl
   | 9, ho =>
     cases ho
     refine wpOp_of rfl rfl ?_
     have f8 : (aq.tmps.getD 25 undef) = .bool true := z6 8 25 (hall { on := 8, ground := Ground.data } (by simp) rfl) rfl
     have hK := fun (v : Value) (W2 : World) hW hT hv => hJ2.put hS 9 26 rfl (by omega) (W' := W2) hW hT v hv
     clear ho hall hl hQ
     generalize InvQ _ _ _ w0 a0 (lq.setIfInBounds 9 true) = K at hK ⊢
     clear hJ2 hS z1 z2 z3 z4 z6 z7
     go_simp
     exact hK _ _ z5 (fun _ _ h => h) rfl
   | iq + 10, ho => simp at ho
 · intro lq aq W hJ hr
   obtain ⟨z1, z2, z3, z4, z5, z6, z7⟩ := hJ
   have hl := listed_of hr [0, 1, 2, 3, 4, 5, 6, 7, 8, 9] [] (by simp) (by kernel_rfl) (by rw [z1]; decide)
   exact hQ aq W z2 z3 (fun e he => z4 e (by simpa using he)) (z6 9 26 (hl 9 (by simp)) rfl) z5
set_option maxRecDepth 100000 in
set_option maxHeartbeats 2000000 in
theorem eqBlockS_any (Q : QD) (ao bo : Option Addr) (ca cb A off D od : Nat) (so ro : Nat → Option Addr × Nat) (hN : Q.N ≤ 1048576) (hL : ∀ i, i < Q.N → Q.L i ≤ 1048576) (w : World) (hao : 0 < Q.N → ao = some ⟨A, off, none⟩) (hbo : 0 < Q.N → bo = some ⟨D, od, none⟩) (hA : BlIn Q w A off so) (hC : BlIn Q w D od ro) : Calls Try.prog 42 #[.slice ao Q.N ca, .slice bo Q.N cb] w (VP (.bool true) w) := by
 obtain ⟨n, hn⟩ : ∃ n, Q.N = n := ⟨_, rfl⟩
 have HN : Hid (Q.N = n) := hn
 have HL : Hid (∀ i, i < n → Q.L i ≤ 1048576) := by rw [← hn]; exact hL
 have HAO : Hid (0 < n → ao = some ⟨A, off, none⟩) := by rw [← hn]; exact hao
 have HBO : Hid (0 < n → bo = some ⟨D, od, none⟩) := by rw [← hn]; exact hbo
 have HA : Hid (BlIn Q w A off so) := hA
 have HC : Hid (BlIn Q w D od ro) := hC
 have hnI : (n : Int) ≤ 1048576 := by omega
 have hn2 : n ≤ 1048576 := by omega
 rw [hn]
 clear hA hC hn hL hao hbo hN
 go_enter Try.func42, Try.ntmps42
 go_wp2_with fail
 go_loopw [5] (fun i wr => ∃ c : Nat, c ≤ n ∧ i = .int .i64 c ∧ Below w.heap.size w wr) (fun i _ => n - (intOf i).toNat)
 case atStart => exact ⟨0, by omega, rfl, Below.refl _ _⟩
 case round =>
   obtain ⟨c, hc, rfl, HB⟩ := hrel
   by_cases hcn : c < n
   · obtain rfl := HAO.out (by omega)
     obtain rfl := HBO.out (by omega)
     obtain ⟨hA, q0, q1, q2, q3, q4, hNA⟩ := HA.out.below HB c (by rw [HN.out]; exact hcn)
     obtain ⟨hD, r0, r1, r2, r3, r4, hNB⟩ := HC.out.below HB c (by rw [HN.out]; exact hcn)
     have hcI : (c : Int) < n := by omega
     go_upto_region 6 with fail
     refine qeJ (A := A) (off := off) (D := D) (od := od) (n := n) (ca := ca) (cb := cb) (c := c) (m := Q.L c) (mc := (so c).2) (md := (ro c).2) (ao := (so c).1) (co := (ro c).1) (x := Q.X c) (y := Q.Y c) (z := Q.Z c) (t := Q.T c) (e := Q.E c) hcn hn2 (HL.out c hcn) hNA hNB rfl rfl rfl q0 hA q1 hA q2 hA q3 hA q4 hA r0 hD r1 hD r2 hD r3 hD r4 hD rfl ?_
     rintro ⟨tm, df⟩ Wz hz hdf hoff hx hBz
     simp only at hz hdf hoff hx
     change tm.getD 26 undef = .bool false at hx
     subst hdf
     have htm := tmps_fold [17, 18, 19, 20, 21, 22, 23, 24, 25, 26] tm _ hz hoff
     simp only [List.foldl, List.setIfInBounds_toArray, List.set_cons_zero, List.set_cons_succ, hx] at htm
     clear hz hoff
     generalize tm.getD 17 undef = pz0, tm.getD 18 undef = pz1, tm.getD 19 undef = pz2, tm.getD 20 undef = pz3, tm.getD 21 undef = pz4, tm.getD 22 undef = pz5, tm.getD 23 undef = pz6, tm.getD 24 undef = pz7, tm.getD 25 undef = pz8 at htm
     clear hx
     subst htm
     have HB2 := HB.trans (hBz.mono HB.size)
     clear HB hBz q0 q1 q2 q3 q4 r0 r1 r2 r3 r4 hNA hNB
     go_wp2
     go_roundw
     case rel => exact ⟨c + 1, by omega, by go_num, HB2⟩
     case measure => simp [intOf]; omega
   · obtain rfl : c = n := by omega
     clear HA HC
     go_wp2
     go_ret
     exact ⟨rfl, HB⟩
structure QuRow (Q : QD) (w : World) (b gi gb : Nat) (S : Nat → Nat) : Prop where
 its : w.rowIs gi 59 (Q.m * 5) (fun i => .int .i64 (xI Q i))
 lt : b ≤ gi
 bls : BlRow Q w b gb S
 d1 : gi ≠ gb
 d2 : ∀ j, j < Q.N → S j ≠ gi
theorem QuRow.step {Q : QD} {w w' : World} {b gi gb : Nat} {S : Nat → Nat} (h : QuRow Q w b gi gb S) (hB : Below w.heap.size w w') : QuRow Q w' b gi gb S :=
 ⟨rowI_step h.its hB, h.lt, h.bls.step hB, h.d1, h.d2⟩
theorem QuRow.setOther {Q : QD} {w : World} {b gi gb g : Nat} {S : Nat → Nat} (h : QuRow Q w b gi gb S) (hg : g < b) (k : Nat) (v : Value) : QuRow Q (w.setCell ⟨g, k, none⟩ v) b gi gb S :=
 ⟨h.its.setOther (by show gi ≠ g; have := h.lt; omega) v, h.lt, ⟨h.bls.row.setOther (by show gb ≠ g; have := h.bls.lt; omega) v, h.bls.lt, fun j hj => ⟨(h.bls.ids j hj).1, (h.bls.ids j hj).2.1, (h.bls.ids j hj).2.2.setOther (by show S j ≠ g; have := (h.bls.ids j hj).1; omega) v⟩, h.bls.up⟩, h.d1, h.d2⟩
set_option maxRecDepth 100000 in
set_option maxHeartbeats 4000000 in
theorem toQuad_any (Q : QD) (ao bo : Option Addr) (cap bcap A off : Nat) (so : Nat → Option Addr × Nat) (m d : Int) (hm : Q.m ≤ 1048576) (hN : Q.N ≤ 1048576) (hL : ∀ i, i < Q.N → Q.L i ≤ 1048576) (hbo : 0 < Q.N → bo = some ⟨A, off, none⟩) (w : World) (hS : ItIn Q w ao (List.range Q.m)) (hBl : BlIn Q w A off so) : Calls Try.prog 9 #[.agg #[.int .i64 m, .int .i64 d, .slice ao Q.m cap, .slice bo Q.N bcap]] w (fun r w' => ∃ gi gb S, r = .returned (.agg #[.int .i64 m, .int .i64 d, .slice (some ⟨gi, 0, none⟩) Q.m Q.m, .slice (some ⟨gb, 0, none⟩) Q.N Q.N]) ∧ QuRow Q w' w.heap.size gi gb S ∧ Below w.heap.size w w') := by
 have B0 : Blk ((w.alloc (.cells #[.int .i64 m, .int .i64 d, .slice ao Q.m cap, .slice bo Q.N bcap] 25)).alloc (.cells #[.int .i64 0, .int .i64 0, .slice none 0 0, .slice none 0 0] 34)) w.heap.size [.int .i64 m, .int .i64 d, .slice ao Q.m cap, .slice bo Q.N bcap] := (Blk.new w [.int .i64 m, .int .i64 d, .slice ao Q.m cap, .slice bo Q.N bcap] 25 rfl).alloc _
 have B1 : Blk ((w.alloc (.cells #[.int .i64 m, .int .i64 d, .slice ao Q.m cap, .slice bo Q.N bcap] 25)).alloc (.cells #[.int .i64 0, .int .i64 0, .slice none 0 0, .slice none 0 0] 34)) (w.heap.size + 1) [.int .i64 0, .int .i64 0, .slice none 0 0, .slice none 0 0] := Blk.new (w.alloc (.cells #[.int .i64 m, .int .i64 d, .slice ao Q.m cap, .slice bo Q.N bcap] 25)) [.int .i64 0, .int .i64 0, .slice none 0 0, .slice none 0 0] 34 (by simp)
 have HB : Below w.heap.size w ((w.alloc (.cells #[.int .i64 m, .int .i64 d, .slice ao Q.m cap, .slice bo Q.N bcap] 25)).alloc (.cells #[.int .i64 0, .int .i64 0, .slice none 0 0, .slice none 0 0] 34)) := ((Below.refl _ w).alloc (Nat.le_refl _) _).alloc (by simp) _
 have T1 := fun w h => toItemS_any Q ao cap hm w h
 have T2 := fun w h => toBlockS_any Q bo bcap A off so hN hL hbo w h
 have HS : Hid (ItIn Q w ao (List.range Q.m)) := hS
 have HBL : Hid (BlIn Q w A off so) := hBl
 clear hS hBl
 go_enter Try.func9, Try.ntmps9
 go_upto_region 1 with fail
 have hs : ((w.alloc (.cells #[.int .i64 m, .int .i64 d, .slice ao Q.m cap, .slice bo Q.N bcap] 25)).alloc (.cells #[.int .i64 0, .int .i64 0, .slice none 0 0, .slice none 0 0] 34)).heap.size = w.heap.size + 2 := by simp
 generalize ((w.alloc (.cells #[.int .i64 m, .int .i64 d, .slice ao Q.m cap, .slice bo Q.N bcap] 25)).alloc (.cells #[.int .i64 0, .int .i64 0, .slice none 0 0, .slice none 0 0] 34)) = W1 at *
 have e0 := (B0.alloc (.cells #[.int .i64 0, .int .i64 0, .slice none 0 0, .slice none 0 0] 34)).c 0 rfl; have e1 := (B0.alloc (.cells #[.int .i64 m, .int .i64 0, .slice none 0 0, .slice none 0 0] 34)).c 1 rfl
 replace B0 := B0.alloc (.cells #[.int .i64 m, .int .i64 d, .slice none 0 0, .slice none 0 0] 34)
 replace B1 := B1.alloc (.cells #[.int .i64 m, .int .i64 d, .slice none 0 0, .slice none 0 0] 34)
 have B2 := Blk.new W1 [.int .i64 m, .int .i64 d, .slice none 0 0, .slice none 0 0] 34 (g := w.heap.size + 2) hs.symm
 replace HB := HB.alloc HB.size (.cells #[.int .i64 m, .int .i64 d, .slice none 0 0, .slice none 0 0] 34)
 go_upto_region 4 with fail
 clear e0 e1
 generalize (W1.alloc (.cells #[.int .i64 m, .int .i64 d, .slice none 0 0, .slice none 0 0] 34)) = W2 at *
 clear hs
 have hl2 := B2.lt
 have e2 := B0.c 2 rfl
 go_wp2_with fail
 refine (T1 _ (HS.out.step HB)).mono ?_
 rintro r w1 ⟨gi, rfl, hgi, R1, hB⟩
 replace B0 := B0.step hB; replace B1 := B1.step hB; replace B2 := B2.step hB
 replace HB := HB.trans (hB.mono HB.size)
 clear hB T1 e2
 have d2 := B2.c 2 rfl; have f2 := B2.f 2 rfl
 have hr1 := R1.lt
 replace B0 := B0.setO (p := ⟨w.heap.size + 2, 2, none⟩) (by show w.heap.size ≠ w.heap.size + 2; omega) (.slice (some ⟨gi, 0, none⟩) Q.m Q.m)
 replace B1 := B1.setO (p := ⟨w.heap.size + 2, 2, none⟩) (by show w.heap.size + 1 ≠ w.heap.size + 2; omega) (.slice (some ⟨gi, 0, none⟩) Q.m Q.m)
 replace B2 := B2.setI 2 (by simp) (.slice (some ⟨gi, 0, none⟩) Q.m Q.m)
 replace R1 := R1.setOther (a := ⟨w.heap.size + 2, 2, none⟩) (by show gi ≠ w.heap.size + 2; omega) (.slice (some ⟨gi, 0, none⟩) Q.m Q.m)
 replace HB := HB.setCell (p := ⟨w.heap.size + 2, 2, none⟩) (by show w.heap.size ≤ w.heap.size + 2; omega) (.slice (some ⟨gi, 0, none⟩) Q.m Q.m)
 simp only [List.set_cons_zero, List.set_cons_succ] at B2
 go_upto_region 5 with fail
 clear d2 f2
 have hsz : (w1.setCell ⟨w.heap.size + 2, 2, none⟩ (.slice (some ⟨gi, 0, none⟩) Q.m Q.m)).heap.size = w1.heap.size := by simp [World.setCell]
 have hgi1 : gi < (w1.setCell ⟨w.heap.size + 2, 2, none⟩ (.slice (some ⟨gi, 0, none⟩) Q.m Q.m)).heap.size := by rw [hsz]; exact hr1
 clear hsz hr1
 generalize (w1.setCell ⟨w.heap.size + 2, 2, none⟩ (.slice (some ⟨gi, 0, none⟩) Q.m Q.m)) = W3 at *
 have hl3 := B2.lt
 have e3 := B0.c 3 rfl
 go_wp2_with fail
 refine (T2 _ (HBL.out.below HB)).mono ?_
 rintro r w4 ⟨gb, S, rfl, R2, hB⟩
 replace B1 := B1.step hB; replace B2 := B2.step hB
 replace HB := HB.trans (hB.mono HB.size)
 replace R1 := rowI_step R1 hB
 have hgb := R2.lt
 have RQ : QuRow Q w4 (w.heap.size + 3) gi gb S := ⟨R1, by omega, ⟨R2.row, by omega, fun j hj => ⟨by have := (R2.ids j hj).1; omega, (R2.ids j hj).2⟩, R2.up⟩, by omega, fun j hj => by have := (R2.ids j hj).1; omega⟩
 clear hB T2 e3 B0 R1 R2
 have d3 := B2.c 3 rfl; have f3 := B2.f 3 rfl
 have BN := B2.setI 3 (by simp) (.slice (some ⟨gb, 0, none⟩) Q.N Q.N)
 have BM := B1.setO (p := ⟨w.heap.size + 2, 3, none⟩) (by show w.heap.size + 1 ≠ w.heap.size + 2; omega) (.slice (some ⟨gb, 0, none⟩) Q.N Q.N)
 have HN := HB.setCell (p := ⟨w.heap.size + 2, 3, none⟩) (by show w.heap.size ≤ w.heap.size + 2; omega) (.slice (some ⟨gb, 0, none⟩) Q.N Q.N)
 have RQ2 : QuRow Q (w4.setCell ⟨w.heap.size + 2, 3, none⟩ (.slice (some ⟨gb, 0, none⟩) Q.N Q.N)) (w.heap.size + 3) gi gb S := RQ.setOther (by omega) 3 _
 simp only [List.set_cons_zero, List.set_cons_succ] at BN
 clear B1 B2 HB RQ
 go_upto_region 6 with fail
 clear d3 f3
 generalize (w4.setCell ⟨w.heap.size + 2, 3, none⟩ (.slice (some ⟨gb, 0, none⟩) Q.N Q.N)) = W5 at *
 have e0 := BN.c 0 rfl; have e1 := BN.c 1 rfl; have e2 := BN.c 2 rfl; have e3 := BN.c 3 rfl
 have g0 := BM.c 0 rfl; have g1 := BM.c 1 rfl; have g2 := BM.c 2 rfl; have g3 := BM.c 3 rfl; have h0 := BM.f 0 rfl; have h1 := BM.f 1 rfl; have h2 := BM.f 2 rfl; have h3 := BM.f 3 rfl
 have BF : Hid (Blk ((((W5.setCell ⟨(w.heap.size + 1), 0, none⟩ (.int .i64 m)).setCell ⟨(w.heap.size + 1), 1, none⟩ (.int .i64 d)).setCell ⟨(w.heap.size + 1), 2, none⟩ (.slice (some ⟨gi, 0, none⟩) Q.m Q.m)).setCell ⟨(w.heap.size + 1), 3, none⟩ (.slice (some ⟨gb, 0, none⟩) Q.N Q.N)) (w.heap.size + 1) [.int .i64 m, .int .i64 d, .slice (some ⟨gi, 0, none⟩) Q.m Q.m, .slice (some ⟨gb, 0, none⟩) Q.N Q.N]) := (((BM.setI 0 (by decide) _).setI 1 (by simp) _).setI 2 (by simp) _).setI 3 (by simp) _
 have RF : Hid (QuRow Q ((((W5.setCell ⟨(w.heap.size + 1), 0, none⟩ (.int .i64 m)).setCell ⟨(w.heap.size + 1), 1, none⟩ (.int .i64 d)).setCell ⟨(w.heap.size + 1), 2, none⟩ (.slice (some ⟨gi, 0, none⟩) Q.m Q.m)).setCell ⟨(w.heap.size + 1), 3, none⟩ (.slice (some ⟨gb, 0, none⟩) Q.N Q.N)) (w.heap.size + 3) gi gb S) := (((RQ2.setOther (by omega) 0 _).setOther (by omega) 1 _).setOther (by omega) 2 _).setOther (by omega) 3 _
 clear BM BN RQ2
 go_wp2
 have r0 := BF.out.c 0 rfl; have r1 := BF.out.c 1 rfl; have r2 := BF.out.c 2 rfl; have r3 := BF.out.c 3 rfl
 refine bodyPost_ret (v := .agg #[.int .i64 m, .int .i64 d, .slice (some ⟨gi, 0, none⟩) Q.m Q.m, .slice (some ⟨gb, 0, none⟩) Q.N Q.N]) (by simp [results, Try.results9, go_sem, r0, r1, r2, r3]) rfl ?_
 refine ⟨gi, gb, S, rfl, ?_, (((HN.setCell (Nat.le_succ _) _).setCell (Nat.le_succ _) _).setCell (Nat.le_succ _) _).setCell (Nat.le_succ _) _⟩
 exact ⟨RF.out.its, by have := RF.out.lt; omega, ⟨RF.out.bls.row, by have := RF.out.bls.lt; omega, fun j hj => ⟨by have := (RF.out.bls.ids j hj).1; omega, (RF.out.bls.ids j hj).2⟩, RF.out.bls.up⟩, RF.out.d1, RF.out.d2⟩
theorem dpT_le : ∀ (d : Nat) (t : QT), dpB d t → dpT t ≤ d
 | _, .leaf _, _ => Nat.zero_le _
 | 0, .node _, h => h.elim
 | d + 1, .node K, h => by
   have h0 := dpT_le d (K 0) (h 0 (by omega)); have h1 := dpT_le d (K 1) (h 1 (by omega)); have h2 := dpT_le d (K 2) (h 2 (by omega)); have h3 := dpT_le d (K 3) (h 3 (by omega))
   unfold dpT
   omega
theorem catW_le {f : Nat → List WB} {n : Nat} (h : ∀ k, k < 4 → (f k).length ≤ n) : (catW f 4).length ≤ 4 * n := by
 have h0 := h 0 (by omega); have h1 := h 1 (by omega); have h2 := h 2 (by omega); have h3 := h 3 (by omega)
 simp only [catW, List.length_append, List.length_nil]
 omega
def wbM : Nat → Nat
 | 0 => 1
 | d + 1 => 1 + 4 * wbM d
theorem wrT_le : ∀ (d : Nat) (t : QT) (x y s : Int), dpT t ≤ d → (wrT t x y s).length ≤ wbM d
 | 0, .leaf _, _, _, _, _ => Nat.le_refl _
 | d + 1, .leaf _, _, _, _, _ => by show 1 ≤ 1 + _; omega
 | 0, .node K, _, _, _, h => by unfold dpT at h; omega
 | d + 1, .node K, x, y, s, h => by
   have hk : ∀ k, k < 4 → dpT (K k) ≤ d := fun k hk => by
     unfold dpT at h
     rcases (show k = 0 ∨ k = 1 ∨ k = 2 ∨ k = 3 by omega) with e | e | e | e <;> subst e <;> omega
   have h1 := catW_le (f := fun k => wrT (K k) (kX x (s / 2) k) (kY y (s / 2) k) (s / 2)) (n := wbM d) (fun k hk4 => wrT_le d (K k) _ _ _ (hk k hk4))
   show _ + 1 ≤ 1 + 4 * wbM d
   omega
theorem putT_dp (Q : QD) (j : Nat) (mx : Int) : ∀ (t : QT) (d : Nat) (x y s : Int), dpT t ≤ d → dpT (putT Q j mx t (d : Int) x y s) ≤ d
 | .leaf l, d, x, y, s, h => by
   unfold putT
   split
   · split
     · exact Nat.zero_le _
     · rename_i h1
       show max (max (max (0 + 1) (0 + 1)) (0 + 1)) (0 + 1) ≤ d
       omega
   · exact h
 | .node K, d, x, y, s, h => by
   cases hh : hitQ Q x y s j with
   | false => rw [putT_miss hh]; exact h
   | true =>
     have hk : ∀ k, k < 4 → dpT (K k) + 1 ≤ d := fun k hk => by
       unfold dpT at h
       rcases (show k = 0 ∨ k = 1 ∨ k = 2 ∨ k = 3 by omega) with e | e | e | e <;> subst e <;> omega
     obtain ⟨e, rfl⟩ : ∃ e, d = e + 1 := ⟨d - 1, by have := hk 0 (by omega); omega⟩
     rw [putT_hit hh, show ((e + 1 : Nat) : Int) - 1 = (e : Int) by omega]
     have h0 := putT_dp Q j mx (K 0) e (kX x (s / 2) 0) (kY y (s / 2) 0) (s / 2) (by have := hk 0 (by omega); omega)
     have h1 := putT_dp Q j mx (K 1) e (kX x (s / 2) 1) (kY y (s / 2) 1) (s / 2) (by have := hk 1 (by omega); omega)
     have h2 := putT_dp Q j mx (K 2) e (kX x (s / 2) 2) (kY y (s / 2) 2) (s / 2) (by have := hk 2 (by omega); omega)
     have h3 := putT_dp Q j mx (K 3) e (kX x (s / 2) 3) (kY y (s / 2) 3) (s / 2) (by have := hk 3 (by omega); omega)
     show max (max (max (dpT (putT Q j mx (K 0) (e : Int) (kX x (s / 2) 0) (kY y (s / 2) 0) (s / 2)) + 1) (dpT (putT Q j mx (K 1) (e : Int) (kX x (s / 2) 1) (kY y (s / 2) 1) (s / 2)) + 1)) (dpT (putT Q j mx (K 2) (e : Int) (kX x (s / 2) 2) (kY y (s / 2) 2) (s / 2)) + 1)) (dpT (putT Q j mx (K 3) (e : Int) (kX x (s / 2) 3) (kY y (s / 2) 3) (s / 2)) + 1) ≤ e + 1
     omega
def plcJ (Q : QD) (id : Int) (j : Nat) : Prop := j ≤ Q.m ∧ (∀ i, i < j → Q.I i < id) ∧ ∀ i, j ≤ i → i < Q.m → id < Q.I i
theorem plcJ.one {Q : QD} {id : Int} {j k : Nat} (h : plcJ Q id j) (h' : plcJ Q id k) : j = k := by
 obtain ⟨a1, a2, a3⟩ := h
 obtain ⟨b1, b2, b3⟩ := h'
 apply Classical.byContradiction
 intro hne
 rcases Nat.lt_or_ge j k with h | h
 · have := b2 j h
   have := a3 j (Nat.le_refl _) (by omega)
   omega
 · have := a2 k (by omega)
   have := b3 k (Nat.le_refl _) (by omega)
   omega
theorem insQ_rise {Q : QD} {id : Int} {sg : Int × Int × Int × Int} {j : Nat} (hr : riseI Q) (h : plcJ Q id j) : riseI (insQ Q j id sg) := fun i h0 hi => by
 obtain ⟨a1, a2, a3⟩ := h
 have hi' : i < Q.m + 1 := hi
 rcases Nat.lt_trichotomy i j with h1 | h1 | h1
 · rw [(insQ_lt (Q := Q) (id := id) (sg := sg) (show i - 1 < j by omega)).1, (insQ_lt (Q := Q) (id := id) (sg := sg) h1).1]
   exact hr i h0 (by omega)
 · subst h1
   rw [(insQ_lt (Q := Q) (id := id) (sg := sg) (show i - 1 < i by omega)).1, (insQ_at Q i id sg).1]
   exact a2 _ (by omega)
 · obtain ⟨e, rfl⟩ : ∃ e, i = e + 1 := ⟨i - 1, by omega⟩
   rw [(insQ_gt (Q := Q) (id := id) (sg := sg) (show j ≤ e by omega)).1, Nat.add_sub_cancel]
   rcases (show e = j ∨ j < e by omega) with h2 | h2
   · subst h2
     rw [(insQ_at Q e id sg).1]
     exact a3 _ (Nat.le_refl _) (by omega)
   · obtain ⟨f, rfl⟩ : ∃ f, e = f + 1 := ⟨e - 1, by omega⟩
     rw [(insQ_gt (Q := Q) (id := id) (sg := sg) (show j ≤ f by omega)).1]
     exact hr (f + 1) (by omega) (by omega)
theorem insQ_its6 {Q : QD} {id : Int} {sg : Int × Int × Int × Int} {j : Nat} (h6 : Its6 Q (List.range Q.m)) (hs : In6 sg.1 ∧ In6 sg.2.1 ∧ In6 sg.2.2.1 ∧ In6 sg.2.2.2) (hj : j ≤ Q.m) : Its6 (insQ Q j id sg) (List.range (Q.m + 1)) := fun i hi => by
 have hi := List.mem_range.1 hi
 rcases Nat.lt_trichotomy i j with h1 | h1 | h1
 · rw [(insQ_lt (Q := Q) (id := id) (sg := sg) h1).2]
   exact h6 i (List.mem_range.2 (by omega))
 · subst h1
   rw [(insQ_at Q i id sg).2]
   exact hs
 · obtain ⟨e, rfl⟩ : ∃ e, i = e + 1 := ⟨i - 1, by omega⟩
   rw [(insQ_gt (Q := Q) (id := id) (sg := sg) (show j ≤ e by omega)).2]
   exact h6 e (List.mem_range.2 (by omega))
theorem insQ_can {Q : QD} {id : Int} {sg : Int × Int × Int × Int} {j : Nat} (h : plcJ Q id j) (x y s : Int) (hh : hitQ (insQ Q j id sg) x y s j = true) : ∃ A B, canL Q x y s = A ++ B ∧ canL (insQ Q j id sg) x y s = A ++ (insQ Q j id sg).I j :: B ∧ (∀ u ∈ A, u < (insQ Q j id sg).I j) ∧ (∀ u ∈ B, (insQ Q j id sg).I j < u) := by
 obtain ⟨A, B, e1, e2, e3, e4⟩ := canL_ins h.1 id sg x y s
 have hn : newH sg x y s = true := by
   unfold hitQ at hh
   rw [(insQ_at Q j id sg).2] at hh
   exact hh
 rw [if_pos hn] at e2
 rw [(insQ_at Q j id sg).1]
 refine ⟨A, B, e1, e2, fun u hu => ?_, fun u hu => ?_⟩
 · rw [e3] at hu
   obtain ⟨i, h1, rfl⟩ := canP_mem hu
   exact h.2.1 i h1
 · rw [e4] at hu
   obtain ⟨i, h1, h2, rfl⟩ := canR_mem hu
   exact h.2.2 i h1 (by have := h.1; omega)
theorem it5_eq {Q Q' : QD} {i k : Nat} (h : Q'.I k = Q.I i ∧ Q'.S k = Q.S i) : it5 Q' k = it5 Q i := by
 unfold it5
 rw [h.1, h.2]
theorem itCs_more (Q : QD) (c : Nat) : itCs Q (List.range (c + 1)) = itCs Q (List.range c) ++ it5 Q c := by rw [List.range_succ, itCs_app]
theorem itCs_ins {Q : QD} {id : Int} {sg : Int × Int × Int × Int} {j : Nat} : ∀ c, c ≤ j → itCs (insQ Q j id sg) (List.range c) = itCs Q (List.range c)
 | 0, _ => rfl
 | c + 1, h => by rw [itCs_more, itCs_more, itCs_ins c (by omega), it5_eq (insQ_lt (by omega))]
theorem itCs_put {Q : QD} {id : Int} {sg : Int × Int × Int × Int} (j : Nat) : itCs (insQ Q j id sg) (List.range (j + 1)) = itCs Q (List.range j) ++ [.int .i64 id, .int .i64 sg.1, .int .i64 sg.2.1, .int .i64 sg.2.2.1, .int .i64 sg.2.2.2] := by
 rw [itCs_more, itCs_ins j (Nat.le_refl _)]
 unfold it5
 rw [(insQ_at Q j id sg).1, (insQ_at Q j id sg).2]
theorem itCs_gt {Q : QD} {id : Int} {sg : Int × Int × Int × Int} {j c : Nat} (h : j ≤ c) : itCs (insQ Q j id sg) (List.range (c + 1 + 1)) = itCs (insQ Q j id sg) (List.range (c + 1)) ++ it5 Q c := by
 rw [itCs_more, it5_eq (insQ_gt h)]
end Go.Proofs.Ytjhapeidafbncaa
