/- Part 12 of the walks that the proof leans on. -/
import Derived.Test.YthelolpogdcmhaaPart11
namespace Go.Proofs.Ythelolpogdcmhaa
open Go.RowKit
def HeldP (Q : QD) (il : List Nat) (w : World) (r : Ending) (w' : World) : Prop := ∃ v, r = .returned v ∧ w'.ownsRow w.heap.size 56 5 v il.length (itCs Q il) ∧ Below w.heap.size w w'
set_option maxRecDepth 100000 in
set_option maxHeartbeats 8000000 in
theorem held_any (Q : QD) (gq g ic : Nat) (io : Option Addr) (m d : Int) (pv : Value) (x y s lv : Int) (iv kv : Value) (il : List Nat) (ok : Nat → Prop) (hm : Q.m ≤ 1048576) (hr : riseI Q) (hil : ∀ i ∈ il, i < Q.m) (hl : il.length ≤ 1048576) (w : World) (BQ : Blk w gq [.int .i64 m, .int .i64 d, .slice io Q.m ic, pv]) (B0 : BkB w g x y s lv iv kv) (hI : IdV ok w iv (idL Q il)) (hS : ItIn Q w io (List.range Q.m)) : Calls Try.prog 47 #[.pointer (some ⟨gq, 0, none⟩), .pointer (some ⟨g, 0, none⟩)] w (HeldP Q il w) := by
 obtain ⟨i0, hi, hz0, hz1, hz2⟩ := info_item
 obtain ⟨eo, ec, rfl, hNo, _, _⟩ := hI
 have el : (idL Q il).length = il.length := by unfold idL; rw [List.length_map]
 obtain ⟨n, hn⟩ : ∃ n, il.length = n := ⟨_, rfl⟩
 rw [el, hn] at B0 hNo
 have HNO : Hid (NoIn w eo n (fun i => (idL Q il).getD i 0)) := hNo
 have HS : Hid (ItIn Q w io (List.range Q.m)) := hS
 have HIL : Hid (il.length = n ∧ ∀ i ∈ il, i < Q.m) := ⟨hn, hil⟩
 rw [hn] at hl
 clear hNo hS el hn hil
 have hnI : (n : Int) ≤ 1048576 := by omega
 have k4 := B0.c 4 rfl
 go_enter Try.func47, Try.ntmps47
 go_wp2_with fail
 go_loopw [5, 15] (fun o i wr => ∃ c : Nat, c ≤ n ∧ i = .int .i64 c ∧ wr.ownsRow w.heap.size 56 5 o c (itCs Q (il.take c)) ∧ Below w.heap.size w wr) (fun _ i _ => n - (intOf i).toNat)
 case atStart => exact ⟨0, by omega, rfl, World.ownsRow_nil _ _ _ _, Below.refl _ _⟩
 case round =>
   obtain ⟨c, hc, rfl, HO, HB⟩ := hrel
   by_cases hcn : c < n
   · obtain ⟨i, hi2⟩ : ∃ i, il[c]? = some i := ⟨_, List.getElem?_eq_getElem (by have := HIL.out.1; omega)⟩
     have him : i < Q.m := HIL.out.2 i (List.mem_of_getElem? hi2)
     have hcI : (c : Int) < n := by omega
     obtain ⟨A, off, rfl, hA, hcell⟩ := HNO.out c hcn
     have hid : (idL Q il).getD c 0 = Q.I i := by unfold idL; rw [List.getD_eq_getElem?_getD, List.getElem?_map, hi2]; rfl
     replace hcell : w.cell? ⟨A, off + c, none⟩ = some (.int .i64 (Q.I i)) := by rw [← hid]; exact hcell
     have cw := (HB.cell (p := ⟨A, off + c, none⟩) hA).trans hcell
     have C := place_any Q gq ic io m d (Q.I i) pv i true hm (by omega) (fun j hj => by have h := rise_lt hr (i - j - 1) j (by omega); rwa [show j + (i - j - 1) + 1 = i by omega] at h) (fun j hj hj2 => by
       rcases Nat.lt_or_ge i j with h | h
       · have h := rise_lt hr (j - i - 1) i (by omega)
         rw [show i + (j - i - 1) + 1 = j by omega] at h
         omega
       · rw [show j = i by omega]; exact Int.le_refl _) ⟨fun _ => ⟨him, rfl⟩, fun _ => rfl⟩ wr (BQ.step HB) (HS.out.step HB)
     have HTK : Hid (il.take (c + 1) = il.take c ++ [i]) := by show _ = _; rw [List.take_add_one, hi2]; rfl
     clear hcell hid k4
     go_wp2_with fail
     refine C.mono ?_
     rintro r w1 ⟨rfl, hB1⟩
     replace HO := ownA_step HO hB1
     replace HB := HB.trans (hB1.mono HB.size)
     clear C cw hB1 hA
     obtain ⟨A2, off2, rfl, hA2, q0, q1, q2, q3, q4⟩ := HS.out.step HB i i (by rw [List.getElem?_range him])
     have b2 := (BQ.step HB).c 2 rfl
     have hiI : (i : Int) < Q.m := by omega
     have hmI : (Q.m : Int) ≤ 1048576 := by omega
     go_wp2_with (at_builtin; refine wpList_append_own _ rfl _ _ 32 rfl w.heap.size 56 i0 (.agg #[.int .i64 0, .int .i64 0, .int .i64 0, .int .i64 0, .int .i64 0]) 5 40 Try.underlying32 hi hz0 hz1 hz2 rfl (by decide) _ _ _ rfl (ownA_step HO ((Below.refl _ _).alloc (Nat.le_refl _) _)) ⟨w1.heap.size, 0, none⟩ 1 1 (it5 Q i) rfl rfl (it5_new _ _ _ _) (it5_one _ _) (by unfold maxLen; omega) (by omega) (by have := HB.size; simp; omega) ?_)
     intro v1 w2 hown1 hgrow1 _
     have HBN : Below w.heap.size w w2 := (HB.alloc HB.size _).grown hgrow1 (by have := HB.size; simp; omega) (fun k hk => (HO.lt k hk).1)
     have HN : w2.ownsRow w.heap.size 56 5 v1 (c + 1) (itCs Q (il.take (c + 1))) := by
       rw [HTK.out, itCs_app]
       exact hown1
     clear HO HB hown1 hgrow1 q0 q1 q2 q3 q4 b2
     go_wp2
     go_roundw
     case rel => exact ⟨c + 1, by omega, by go_num, HN, HBN⟩
     case measure => simp [intOf]; omega
   · obtain rfl : c = n := by omega
     rw [List.take_of_length_le (by have := HIL.out.1; omega)] at HO
     go_wp2
     go_ret
     exact ⟨_, rfl, by rw [HIL.out.1]; exact HO, HB⟩
def VvwA (Be Hb : Nat) (bx wc : Int) (_B : Nat) : Nat → Value → World → Prop
 | 0, v, _ => v = .pointer (some ⟨Hb, 0, none⟩)
 | 1, v, _ => v = .int .i64 (wc)
 | 2, v, _ => v = .pointer (some ⟨Be, 0, none⟩)
 | 3, v, _ => v = .pointer (some ⟨Be, 0, none⟩)
 | 4, v, _ => v = .pointer (some ⟨Be, 0, none⟩)
 | 5, v, _ => v = .pointer (some ⟨Be, 0, none⟩)
 | 6, v, _ => v = .int .i64 (bx)
 | 7, v, _ => v = .bool (decide (wc < bx))
 | 8, v, _ => v = .bool true
 | 9, v, _ => v = undef
 | 10, v, _ => v = undef
 | 11, v, _ => v = undef
 | 12, v, _ => v = undef
 | 13, v, _ => v = undef
 | 14, v, _ => v = .bool true
 | 15, v, _ => v = .bool true
 | 16, v, _ => v = undef
 | 17, v, _ => v = undef
 | 18, v, _ => v = undef
 | 19, v, _ => v = undef
 | 20, v, _ => v = undef
 | 21, v, _ => v = undef
 | 22, v, _ => v = undef
 | 23, v, _ => v = undef
 | 24, v, _ => v = .bool true
 | 25, v, _ => v = .bool true
 | 26, v, _ => v = undef
 | 27, v, _ => v = undef
 | 28, v, _ => v = undef
 | 29, v, _ => v = undef
 | 30, v, _ => v = undef
 | 31, v, _ => v = .bool true
 | _, _, _ => True
set_option maxRecDepth 100000 in
set_option maxHeartbeats 4000000 in
theorem vwA {Q : Exit → Act → World → Prop} {Be Hb : Nat} {bx wc : Int} {Lb : Nat} {Tb : Nat} {bY : Int} {bs : Int} {wa : Int} {wb : Int} {wd : Int} {w0 : World} {a0 : Act} {idq : Nat} {t0 t1 t2 t3 t4 t5 t6 t7 t8 t9 t10 t11 t12 t13 t14 t15 t16 t17 t18 t19 t20 t21 t22 t23 t24 t25 t26 t27 t28 t29 t30 t31 : TypeId} {q0 q1 q2 q3 q4 q5 q6 q7 q8 q9 q10 q11 q12 q13 q14 q15 q16 q17 q18 q19 q20 q21 q22 q23 q24 q25 q26 q27 q28 q29 q30 q31 : String}
   (d1 : Hid (decide (wc < bx) = true)) (h1 : a0.tmps[1]? = some (.pointer (some ⟨Be, 0, none⟩))) (h7 : a0.tmps[7]? = some (.pointer (some ⟨Lb, 0, none⟩))) (h8 : a0.tmps[8]? = some (.pointer (some ⟨Hb, 0, none⟩))) (h11 : a0.tmps[11]? = some (.pointer (some ⟨Tb, 0, none⟩))) (k0 : w0.cell? ⟨Hb, 0, none⟩ = some (.int .i64 wc)) (l0 : (⟨Hb, 0, none⟩ : Addr).block < w0.heap.size) (k1 : w0.cell? ⟨Hb, 1, none⟩ = some (.int .i64 wd)) (l1 : (⟨Hb, 1, none⟩ : Addr).block < w0.heap.size) (k2 : w0.cell? ⟨Lb, 0, none⟩ = some (.int .i64 wa)) (l2 : (⟨Lb, 0, none⟩ : Addr).block < w0.heap.size) (k3 : w0.cell? ⟨Lb, 1, none⟩ = some (.int .i64 wb)) (l3 : (⟨Lb, 1, none⟩ : Addr).block < w0.heap.size) (k4 : w0.cell? ⟨Tb, 0, none⟩ = some (.int .i64 (bx + bs))) (l4 : (⟨Tb, 0, none⟩ : Addr).block < w0.heap.size) (k5 : w0.cell? ⟨Tb, 1, none⟩ = some (.int .i64 (bY + bs))) (l5 : (⟨Tb, 1, none⟩ : Addr).block < w0.heap.size) (k6 : w0.cell? ⟨Be, 0, none⟩ = some (.int .i64 bx)) (l6 : (⟨Be, 0, none⟩ : Addr).block < w0.heap.size) (k7 : w0.cell? ⟨Be, 1, none⟩ = some (.int .i64 bY)) (l7 : (⟨Be, 1, none⟩ : Addr).block < w0.heap.size) (hz : a0.tmps.size = 87)
   (hQ : ∀ aq W, aq.tmps.size = a0.tmps.size → aq.defers = a0.defers → (∀ e, e ∉ ([18, 19, 20, 21, 22, 23, 24, 25, 26, 27, 28, 29, 30, 31, 32, 33, 34, 35, 36, 37, 38, 39, 40, 41, 42, 43, 44, 45, 46, 47, 48, 49] : List Nat) → aq.tmps[e]? = a0.tmps[e]?) → VvwA Be Hb bx wc w0.heap.size 31 (aq.tmps.getD 49 undef) W → Below w0.heap.size w0 W → Q .normal aq W) :
   (Code.region idq #[{ dst := some 18, op := Op.fieldAddr 37 (Operand.tmp 8) 0, type := t0, pos := q0, after := #[], guard := none },
   { dst := some 19, op := Op.load 2 (Operand.tmp 18), type := t1, pos := q1, after := #[{ on := 0, ground := Ground.data }], guard := none },
   { dst := some 20, op := Op.move (Operand.tmp 1), type := t2, pos := q2, after := #[], guard := none },
   { dst := some 21, op := Op.nilCheck (Operand.tmp 20), type := t3, pos := q3, after := #[{ on := 2, ground := Ground.data }], guard := none },
   { dst := some 22, op := Op.fieldAddr 99 (Operand.tmp 21) 0, type := t4, pos := q4, after := #[{ on := 3, ground := Ground.data }], guard := none },
   { dst := some 23, op := Op.fieldAddr 37 (Operand.tmp 22) 0, type := t5, pos := q5, after := #[{ on := 4, ground := Ground.data }], guard := none },
   { dst := some 24, op := Op.load 2 (Operand.tmp 23), type := t6, pos := q6, after := #[{ on := 5, ground := Ground.data }], guard := none },
   { dst := some 25, op := Op.binOp BinOp.lss 2 (Operand.tmp 19) (Operand.tmp 24) 2, type := t7, pos := q7, after := #[{ on := 1, ground := Ground.data }, { on := 6, ground := Ground.data }], guard := none },
   { dst := some 26, op := Op.move (Operand.tmp 25), type := t8, pos := q8, after := #[{ on := 7, ground := Ground.data }], guard := none },
   { dst := some 27, op := Op.fieldAddr 37 (Operand.tmp 11) 0, type := t9, pos := q9, after := #[{ on := 8, ground := Ground.guard }], guard := some (8, false) },
   { dst := some 28, op := Op.load 2 (Operand.tmp 27), type := t10, pos := q10, after := #[{ on := 9, ground := Ground.data }, { on := 8, ground := Ground.guard }], guard := some (8, false) },
   { dst := some 29, op := Op.fieldAddr 37 (Operand.tmp 7) 0, type := t11, pos := q11, after := #[{ on := 8, ground := Ground.guard }], guard := some (8, false) },
   { dst := some 30, op := Op.load 2 (Operand.tmp 29), type := t12, pos := q12, after := #[{ on := 11, ground := Ground.data }, { on := 8, ground := Ground.guard }], guard := some (8, false) },
   { dst := some 31, op := Op.binOp BinOp.lss 2 (Operand.tmp 28) (Operand.tmp 30) 2, type := t13, pos := q13, after := #[{ on := 10, ground := Ground.data }, { on := 12, ground := Ground.data }, { on := 8, ground := Ground.guard }], guard := some (8, false) },
   { dst := some 32, op := Op.pick (Operand.tmp 26) (Operand.const (Value.bool true)) (Operand.tmp 31), type := t14, pos := q14, after := #[{ on := 8, ground := Ground.data }, { on := 13, ground := Ground.data }], guard := none },
   { dst := some 33, op := Op.move (Operand.tmp 32), type := t15, pos := q15, after := #[{ on := 14, ground := Ground.data }, { on := 8, ground := Ground.chain }], guard := none },
   { dst := some 34, op := Op.fieldAddr 37 (Operand.tmp 8) 1, type := t16, pos := q16, after := #[{ on := 15, ground := Ground.guard }], guard := some (15, false) },
   { dst := some 35, op := Op.load 2 (Operand.tmp 34), type := t17, pos := q17, after := #[{ on := 16, ground := Ground.data }, { on := 15, ground := Ground.guard }], guard := some (15, false) },
   { dst := some 36, op := Op.move (Operand.tmp 1), type := t18, pos := q18, after := #[{ on := 15, ground := Ground.guard }], guard := some (15, false) },
   { dst := some 37, op := Op.nilCheck (Operand.tmp 36), type := t19, pos := q19, after := #[{ on := 18, ground := Ground.data }, { on := 15, ground := Ground.guard }], guard := some (15, false) },
   { dst := some 38, op := Op.fieldAddr 99 (Operand.tmp 37) 0, type := t20, pos := q20, after := #[{ on := 19, ground := Ground.data }, { on := 15, ground := Ground.guard }], guard := some (15, false) },
   { dst := some 39, op := Op.fieldAddr 37 (Operand.tmp 38) 1, type := t21, pos := q21, after := #[{ on := 20, ground := Ground.data }, { on := 15, ground := Ground.guard }], guard := some (15, false) },
   { dst := some 40, op := Op.load 2 (Operand.tmp 39), type := t22, pos := q22, after := #[{ on := 21, ground := Ground.data }, { on := 15, ground := Ground.guard }], guard := some (15, false) },
   { dst := some 41, op := Op.binOp BinOp.lss 2 (Operand.tmp 35) (Operand.tmp 40) 2, type := t23, pos := q23, after := #[{ on := 17, ground := Ground.data }, { on := 22, ground := Ground.data }, { on := 15, ground := Ground.guard }], guard := some (15, false) },
   { dst := some 42, op := Op.pick (Operand.tmp 33) (Operand.const (Value.bool true)) (Operand.tmp 41), type := t24, pos := q24, after := #[{ on := 15, ground := Ground.data }, { on := 23, ground := Ground.data }], guard := none },
   { dst := some 43, op := Op.move (Operand.tmp 42), type := t25, pos := q25, after := #[{ on := 24, ground := Ground.data }, { on := 15, ground := Ground.chain }], guard := none },
   { dst := some 44, op := Op.fieldAddr 37 (Operand.tmp 11) 1, type := t26, pos := q26, after := #[{ on := 25, ground := Ground.guard }], guard := some (25, false) },
   { dst := some 45, op := Op.load 2 (Operand.tmp 44), type := t27, pos := q27, after := #[{ on := 26, ground := Ground.data }, { on := 25, ground := Ground.guard }], guard := some (25, false) },
   { dst := some 46, op := Op.fieldAddr 37 (Operand.tmp 7) 1, type := t28, pos := q28, after := #[{ on := 25, ground := Ground.guard }], guard := some (25, false) },
   { dst := some 47, op := Op.load 2 (Operand.tmp 46), type := t29, pos := q29, after := #[{ on := 28, ground := Ground.data }, { on := 25, ground := Ground.guard }], guard := some (25, false) },
   { dst := some 48, op := Op.binOp BinOp.lss 2 (Operand.tmp 45) (Operand.tmp 47) 2, type := t30, pos := q30, after := #[{ on := 27, ground := Ground.data }, { on := 29, ground := Ground.data }, { on := 25, ground := Ground.guard }], guard := some (25, false) },
   { dst := some 49, op := Op.pick (Operand.tmp 43) (Operand.const (Value.bool true)) (Operand.tmp 48), type := t31, pos := q31, after := #[{ on := 25, ground := Ground.data }, { on := 30, ground := Ground.data }], guard := none }] true).wp Try.prog Q a0 w0 := by
 have hS : distS [some 18, some 19, some 20, some 21, some 22, some 23, some 24, some 25, some 26, some 27, some 28, some 29, some 30, some 31, some 32, some 33, some 34, some 35, some 36, some 37, some 38, some 39, some 40, some 41, some 42, some 43, some 44, some 45, some 46, some 47, some 48, some 49] = true := rfl
 refine wp_region_q (by kernel_rfl) w0.heap.size [some 18, some 19, some 20, some 21, some 22, some 23, some 24, some 25, some 26, some 27, some 28, some 29, some 30, some 31, some 32, some 33, some 34, some 35, some 36, some 37, some 38, some 39, some 40, some 41, some 42, some 43, some 44, some 45, some 46, some 47, some 48, some 49] (VvwA Be Hb bx wc w0.heap.size) rfl ?_ ?_
 · intro Q lq aq W iq oq hJ hl ho hall
   have hJ2 := hJ
   obtain ⟨z1, z2, z3, z4, z5, z6, z7⟩ := hJ
   have g1 : aq.tmps.getD 1 undef = .pointer (some ⟨Be, 0, none⟩) := by rw [Array.getD_eq_getD_getElem?, z4 1 (by decide), h1]; rfl
   have g7 : aq.tmps.getD 7 undef = .pointer (some ⟨Lb, 0, none⟩) := by rw [Array.getD_eq_getD_getElem?, z4 7 (by decide), h7]; rfl
   have g8 : aq.tmps.getD 8 undef = .pointer (some ⟨Hb, 0, none⟩) := by rw [Array.getD_eq_getD_getElem?, z4 8 (by decide), h8]; rfl
   have g11 : aq.tmps.getD 11 undef = .pointer (some ⟨Tb, 0, none⟩) := by rw [Array.getD_eq_getD_getElem?, z4 11 (by decide), h11]; rfl
   have c0 : W.cell? ⟨Hb, 0, none⟩ = some (.int .i64 wc) := (z5.cell l0).trans k0
   have c1 : W.cell? ⟨Hb, 1, none⟩ = some (.int .i64 wd) := (z5.cell l1).trans k1
   have c2 : W.cell? ⟨Lb, 0, none⟩ = some (.int .i64 wa) := (z5.cell l2).trans k2
   have c3 : W.cell? ⟨Lb, 1, none⟩ = some (.int .i64 wb) := (z5.cell l3).trans k3
   have c4 : W.cell? ⟨Tb, 0, none⟩ = some (.int .i64 (bx + bs)) := (z5.cell l4).trans k4
   have c5 : W.cell? ⟨Tb, 1, none⟩ = some (.int .i64 (bY + bs)) := (z5.cell l5).trans k5
   have c6 : W.cell? ⟨Be, 0, none⟩ = some (.int .i64 bx) := (z5.cell l6).trans k6
   have c7 : W.cell? ⟨Be, 1, none⟩ = some (.int .i64 bY) := (z5.cell l7).trans k7
   match iq, ho with
   | 0, ho =>
     cases ho
     refine wpOp_of rfl rfl ?_
     have hK := fun (v : Value) (W2 : World) hW hT hv => hJ2.put hS 0 18 rfl (by omega) (W' := W2) hW hT v hv
     clear ho hall hl hQ
     generalize InvQ _ _ _ w0 a0 (lq.setIfInBounds 0 true) = K at hK ⊢
     clear hJ2 hS z1 z2 z3 z4 z6 z7
     go_simp
     exact hK _ _ z5 (fun _ _ h => h) rfl
   | 1, ho =>
     cases ho
     refine wpOp_of rfl rfl ?_
     have f0 : (aq.tmps.getD 18 undef) = .pointer (some ⟨Hb, 0, none⟩) := z6 0 18 (hall { on := 0, ground := Ground.data } (by simp) rfl) rfl
     have hK := fun (v : Value) (W2 : World) hW hT hv => hJ2.put hS 1 19 rfl (by omega) (W' := W2) hW hT v hv
     clear ho hall hl hQ
     generalize InvQ _ _ _ w0 a0 (lq.setIfInBounds 1 true) = K at hK ⊢
     clear hJ2 hS z1 z2 z3 z4 z6 z7
     go_simp
     exact hK _ _ z5 (fun _ _ h => h) rfl
   | 2, ho =>
     cases ho
     refine wpOp_of rfl rfl ?_
     have hK := fun (v : Value) (W2 : World) hW hT hv => hJ2.put hS 2 20 rfl (by omega) (W' := W2) hW hT v hv
     clear ho hall hl hQ
     generalize InvQ _ _ _ w0 a0 (lq.setIfInBounds 2 true) = K at hK ⊢
     clear hJ2 hS z1 z2 z3 z4 z6 z7
     go_simp
     exact hK _ _ z5 (fun _ _ h => h) rfl
   | 3, ho =>
     cases ho
     refine wpOp_of rfl rfl ?_
     have f2 : (aq.tmps.getD 20 undef) = .pointer (some ⟨Be, 0, none⟩) := z6 2 20 (hall { on := 2, ground := Ground.data } (by simp) rfl) rfl
     have hK := fun (v : Value) (W2 : World) hW hT hv => hJ2.put hS 3 21 rfl (by omega) (W' := W2) hW hT v hv
     clear ho hall hl hQ
     generalize InvQ _ _ _ w0 a0 (lq.setIfInBounds 3 true) = K at hK ⊢
     clear hJ2 hS z1 z2 z3 z4 z6 z7
     go_simp
     exact hK _ _ z5 (fun _ _ h => h) rfl
   | 4, ho =>
     cases ho
     refine wpOp_of rfl rfl ?_
     have f3 : (aq.tmps.getD 21 undef) = .pointer (some ⟨Be, 0, none⟩) := z6 3 21 (hall { on := 3, ground := Ground.data } (by simp) rfl) rfl
     have hK := fun (v : Value) (W2 : World) hW hT hv => hJ2.put hS 4 22 rfl (by omega) (W' := W2) hW hT v hv
     clear ho hall hl hQ
     generalize InvQ _ _ _ w0 a0 (lq.setIfInBounds 4 true) = K at hK ⊢
     clear hJ2 hS z1 z2 z3 z4 z6 z7
     go_simp
     exact hK _ _ z5 (fun _ _ h => h) rfl
   | 5, ho =>
     cases ho
     refine wpOp_of rfl rfl ?_
     have f4 : (aq.tmps.getD 22 undef) = .pointer (some ⟨Be, 0, none⟩) := z6 4 22 (hall { on := 4, ground := Ground.data } (by simp) rfl) rfl
     have hK := fun (v : Value) (W2 : World) hW hT hv => hJ2.put hS 5 23 rfl (by omega) (W' := W2) hW hT v hv
     clear ho hall hl hQ
     generalize InvQ _ _ _ w0 a0 (lq.setIfInBounds 5 true) = K at hK ⊢
     clear hJ2 hS z1 z2 z3 z4 z6 z7
     go_simp
     exact hK _ _ z5 (fun _ _ h => h) rfl
   | 6, ho =>
     cases ho
     refine wpOp_of rfl rfl ?_
     have f5 : (aq.tmps.getD 23 undef) = .pointer (some ⟨Be, 0, none⟩) := z6 5 23 (hall { on := 5, ground := Ground.data } (by simp) rfl) rfl
     have hK := fun (v : Value) (W2 : World) hW hT hv => hJ2.put hS 6 24 rfl (by omega) (W' := W2) hW hT v hv
     clear ho hall hl hQ
     generalize InvQ _ _ _ w0 a0 (lq.setIfInBounds 6 true) = K at hK ⊢
     clear hJ2 hS z1 z2 z3 z4 z6 z7
     go_simp
     exact hK _ _ z5 (fun _ _ h => h) rfl
   | 7, ho =>
     cases ho
     refine wpOp_of rfl rfl ?_
     have f1 : (aq.tmps.getD 19 undef) = .int .i64 (wc) := z6 1 19 (hall { on := 1, ground := Ground.data } (by simp) rfl) rfl
     have f6 : (aq.tmps.getD 24 undef) = .int .i64 (bx) := z6 6 24 (hall { on := 6, ground := Ground.data } (by simp) rfl) rfl
     have hK := fun (v : Value) (W2 : World) hW hT hv => hJ2.put hS 7 25 rfl (by omega) (W' := W2) hW hT v hv
     clear ho hall hl hQ
     generalize InvQ _ _ _ w0 a0 (lq.setIfInBounds 7 true) = K at hK ⊢
     clear hJ2 hS z1 z2 z3 z4 z6 z7
     go_simp
     exact hK _ _ z5 (fun _ _ h => h) rfl
   | 8, ho =>
     cases ho
     refine wpOp_of rfl rfl ?_
     have f7 : (aq.tmps.getD 25 undef) = .bool (decide (wc < bx)) := z6 7 25 (hall { on := 7, ground := Ground.data } (by simp) rfl) rfl
     rw [d1.out] at f7
     have hK := fun (v : Value) (W2 : World) hW hT hv => hJ2.put hS 8 26 rfl (by omega) (W' := W2) hW hT v hv
     clear ho hall hl hQ
     generalize InvQ _ _ _ w0 a0 (lq.setIfInBounds 8 true) = K at hK ⊢
     clear hJ2 hS z1 z2 z3 z4 z6 z7
     go_simp
     exact hK _ _ z5 (fun _ _ h => h) rfl
   | 9, ho =>
     cases ho
     have fg : aq.tmps.getD 26 undef = .bool true := z6 8 26 (hall { on := 8, ground := Ground.guard } (by simp) rfl) rfl
     refine wpOp_off rfl rfl rfl rfl fg ?_
     exact hJ2.put hS 9 27 rfl (by omega) z5 (fun _ _ h => h) undef rfl
   | 10, ho =>
     cases ho
     have fg : aq.tmps.getD 26 undef = .bool true := z6 8 26 (hall { on := 8, ground := Ground.guard } (by simp) rfl) rfl
     refine wpOp_off rfl rfl rfl rfl fg ?_
     exact hJ2.put hS 10 28 rfl (by omega) z5 (fun _ _ h => h) undef rfl
   | 11, ho =>
     cases ho
     have fg : aq.tmps.getD 26 undef = .bool true := z6 8 26 (hall { on := 8, ground := Ground.guard } (by simp) rfl) rfl
     refine wpOp_off rfl rfl rfl rfl fg ?_
     exact hJ2.put hS 11 29 rfl (by omega) z5 (fun _ _ h => h) undef rfl
   | 12, ho =>
     cases ho
     have fg : aq.tmps.getD 26 undef = .bool true := z6 8 26 (hall { on := 8, ground := Ground.guard } (by simp) rfl) rfl
     refine wpOp_off rfl rfl rfl rfl fg ?_
     exact hJ2.put hS 12 30 rfl (by omega) z5 (fun _ _ h => h) undef rfl
   | 13, ho =>
     cases ho
     have fg : aq.tmps.getD 26 undef = .bool true := z6 8 26 (hall { on := 8, ground := Ground.guard } (by simp) rfl) rfl
     refine wpOp_off rfl rfl rfl rfl fg ?_
     exact hJ2.put hS 13 31 rfl (by omega) z5 (fun _ _ h => h) undef rfl
   | 14, ho =>
     cases ho
     refine wpOp_of rfl rfl ?_
     have f8 : (aq.tmps.getD 26 undef) = .bool true := z6 8 26 (hall { on := 8, ground := Ground.data } (by simp) rfl) rfl
     have f13 : (aq.tmps.getD 31 undef) = undef := z6 13 31 (hall { on := 13, ground := Ground.data } (by simp) rfl) rfl
     have hK := fun (v : Value) (W2 : World) hW hT hv => hJ2.put hS 14 32 rfl (by omega) (W' := W2) hW hT v hv
     clear ho hall hl hQ
     generalize InvQ _ _ _ w0 a0 (lq.setIfInBounds 14 true) = K at hK ⊢
     clear hJ2 hS z1 z2 z3 z4 z6 z7
     go_simp
     exact hK _ _ z5 (fun _ _ h => h) rfl
   | 15, ho =>
     cases ho
     refine wpOp_of rfl rfl ?_
     have f14 : (aq.tmps.getD 32 undef) = .bool true := z6 14 32 (hall { on := 14, ground := Ground.data } (by simp) rfl) rfl
     have hK := fun (v : Value) (W2 : World) hW hT hv => hJ2.put hS 15 33 rfl (by omega) (W' := W2) hW hT v hv
     clear ho hall hl hQ
     generalize InvQ _ _ _ w0 a0 (lq.setIfInBounds 15 true) = K at hK ⊢
     clear hJ2 hS z1 z2 z3 z4 z6 z7
     go_simp
     exact hK _ _ z5 (fun _ _ h => h) rfl
   | 16, ho =>
     cases ho
     have fg : aq.tmps.getD 33 undef = .bool true := z6 15 33 (hall { on := 15, ground := Ground.guard } (by simp) rfl) rfl
     refine wpOp_off rfl rfl rfl rfl fg ?_
     exact hJ2.put hS 16 34 rfl (by omega) z5 (fun _ _ h => h) undef rfl
   | 17, ho =>
     cases ho
     have fg : aq.tmps.getD 33 undef = .bool true := z6 15 33 (hall { on := 15, ground := Ground.guard } (by simp) rfl) rfl
     refine wpOp_off rfl rfl rfl rfl fg ?_
     exact hJ2.put hS 17 35 rfl (by omega) z5 (fun _ _ h => h) undef rfl
   | 18, ho =>
     cases ho
     have fg : aq.tmps.getD 33 undef = .bool true := z6 15 33 (hall { on := 15, ground := Ground.guard } (by simp) rfl) rfl
     refine wpOp_off rfl rfl rfl rfl fg ?_
     exact hJ2.put hS 18 36 rfl (by omega) z5 (fun _ _ h => h) undef rfl
   | 19, ho =>
     cases ho
     have fg : aq.tmps.getD 33 undef = .bool true := z6 15 33 (hall { on := 15, ground := Ground.guard } (by simp) rfl) rfl
     refine wpOp_off rfl rfl rfl rfl fg ?_
     exact hJ2.put hS 19 37 rfl (by omega) z5 (fun _ _ h => h) undef rfl
   | 20, ho =>
     cases ho
     have fg : aq.tmps.getD 33 undef = .bool true := z6 15 33 (hall { on := 15, ground := Ground.guard } (by simp) rfl) rfl
     refine wpOp_off rfl rfl rfl rfl fg ?_
     exact hJ2.put hS 20 38 rfl (by omega) z5 (fun _ _ h => h) undef rfl
   | 21, ho =>
     cases ho
     have fg : aq.tmps.getD 33 undef = .bool true := z6 15 33 (hall { on := 15, ground := Ground.guard } (by simp) rfl) rfl
     refine wpOp_off rfl rfl rfl rfl fg ?_
     exact hJ2.put hS 21 39 rfl (by omega) z5 (fun _ _ h => h) undef rfl
   | 22, ho =>
     cases ho
     have fg : aq.tmps.getD 33 undef = .bool true := z6 15 33 (hall { on := 15, ground := Ground.guard } (by simp) rfl) rfl
     refine wpOp_off rfl rfl rfl rfl fg ?_
     exact hJ2.put hS 22 40 rfl (by omega) z5 (fun _ _ h => h) undef rfl
   | 23, ho =>
     cases ho
     have fg : aq.tmps.getD 33 undef = .bool true := z6 15 33 (hall { on := 15, ground := Ground.guard } (by simp) rfl) rfl
     refine wpOp_off rfl rfl rfl rfl fg ?_
     exact hJ2.put hS 23 41 rfl (by omega) z5 (fun _ _ h => h) undef rfl
   | 24, ho =>
     cases ho
     refine wpOp_of rfl rfl ?_
     have f15 : (aq.tmps.getD 33 undef) = .bool true := z6 15 33 (hall { on := 15, ground := Ground.data } (by simp) rfl) rfl
     have f23 : (aq.tmps.getD 41 undef) = undef := z6 23 41 (hall { on := 23, ground := Ground.data } (by simp) rfl) rfl
     have hK := fun (v : Value) (W2 : World) hW hT hv => hJ2.put hS 24 42 rfl (by omega) (W' := W2) hW hT v hv
     clear ho hall hl hQ
     generalize InvQ _ _ _ w0 a0 (lq.setIfInBounds 24 true) = K at hK ⊢
     clear hJ2 hS z1 z2 z3 z4 z6 z7
     go_simp
     exact hK _ _ z5 (fun _ _ h => h) rfl
   | 25, ho =>
     cases ho
     refine wpOp_of rfl rfl ?_
     have f24 : (aq.tmps.getD 42 undef) = .bool true := z6 24 42 (hall { on := 24, ground := Ground.data } (by simp) rfl) rfl
     have hK := fun (v : Value) (W2 : World) hW hT hv => hJ2.put hS 25 43 rfl (by omega) (W' := W2) hW hT v hv
     clear ho hall hl hQ
     generalize InvQ _ _ _ w0 a0 (lq.setIfInBounds 25 true) = K at hK ⊢
     clear hJ2 hS z1 z2 z3 z4 z6 z7
     go_simp
     exact hK _ _ z5 (fun _ _ h => h) rfl
   | 26, ho =>
     cases ho
     have fg : aq.tmps.getD 43 undef = .bool true := z6 25 43 (hall { on := 25, ground := Ground.guard } (by simp) rfl) rfl
     refine wpOp_off rfl rfl rfl rfl fg ?_
     exact hJ2.put hS 26 44 rfl (by omega) z5 (fun _ _ h => h) undef rfl
   | 27, ho =>
     cases ho
     have fg : aq.tmps.getD 43 undef = .bool true := z6 25 43 (hall { on := 25, ground := Ground.guard } (by simp) rfl) rfl
     refine wpOp_off rfl rfl rfl rfl fg ?_
     exact hJ2.put hS 27 45 rfl (by omega) z5 (fun _ _ h => h) undef rfl
   | 28, ho =>
     cases ho
     have fg : aq.tmps.getD 43 undef = .bool true := z6 25 43 (hall { on := 25, ground := Ground.guard } (by simp) rfl) rfl
     refine wpOp_off rfl rfl rfl rfl fg ?_
     exact hJ2.put hS 28 46 rfl (by omega) z5 (fun _ _ h => h) undef rfl
   | 29, ho =>
     cases ho
     have fg : aq.tmps.getD 43 undef = .bool true := z6 25 43 (hall { on := 25, ground := Ground.guard } (by simp) rfl) rfl
     refine wpOp_off rfl rfl rfl rfl fg ?_
     exact hJ2.put hS 29 47 rfl (by omega) z5 (fun _ _ h => h) undef rfl
   | 30, ho =>
     cases ho
     have fg : aq.tmps.getD 43 undef = .bool true := z6 25 43 (hall { on := 25, ground := Ground.guard } (by simp) rfl) rfl
     refine wpOp_off rfl rfl rfl rfl fg ?_
     exact hJ2.put hS 30 48 rfl (by omega) z5 (fun _ _ h => h) undef rfl
   | 31, ho =>
     cases ho
     refine wpOp_of rfl rfl ?_
     have f25 : (aq.tmps.getD 43 undef) = .bool true := z6 25 43 (hall { on := 25, ground := Ground.data } (by simp) rfl) rfl
     have f30 : (aq.tmps.getD 48 undef) = undef := z6 30 48 (hall { on := 30, ground := Ground.data } (by simp) rfl) rfl
     have hK := fun (v : Value) (W2 : World) hW hT hv => hJ2.put hS 31 49 rfl (by omega) (W' := W2) hW hT v hv
     clear ho hall hl hQ
     generalize InvQ _ _ _ w0 a0 (lq.setIfInBounds 31 true) = K at hK ⊢
     clear hJ2 hS z1 z2 z3 z4 z6 z7
     go_simp
     exact hK _ _ z5 (fun _ _ h => h) rfl
   | iq + 32, ho => simp at ho
 · intro lq aq W hJ hr
   obtain ⟨z1, z2, z3, z4, z5, z6, z7⟩ := hJ
   have hl := listed_of hr [0, 1, 2, 3, 4, 5, 6, 7, 8, 9, 10, 11, 12, 13, 14, 15, 16, 17, 18, 19, 20, 21, 22, 23, 24, 25, 26, 27, 28, 29, 30, 31] [] (by simp) (by kernel_rfl) (by rw [z1]; decide)
   exact hQ aq W z2 z3 (fun e he => z4 e (by simpa using he)) (z6 31 49 (hl 31 (by simp)) rfl) z5
def VvwB (Be Lb Hb Tb : Nat) (bx bs wa wc : Int) (_B : Nat) : Nat → Value → World → Prop
 | 0, v, _ => v = .pointer (some ⟨Hb, 0, none⟩)
 | 1, v, _ => v = .int .i64 (wc)
 | 2, v, _ => v = .pointer (some ⟨Be, 0, none⟩)
 | 3, v, _ => v = .pointer (some ⟨Be, 0, none⟩)
 | 4, v, _ => v = .pointer (some ⟨Be, 0, none⟩)
 | 5, v, _ => v = .pointer (some ⟨Be, 0, none⟩)
 | 6, v, _ => v = .int .i64 (bx)
 | 7, v, _ => v = .bool (decide (wc < bx))
 | 8, v, _ => v = .bool false
 | 9, v, _ => v = .pointer (some ⟨Tb, 0, none⟩)
 | 10, v, _ => v = .int .i64 (bx + bs)
 | 11, v, _ => v = .pointer (some ⟨Lb, 0, none⟩)
 | 12, v, _ => v = .int .i64 (wa)
 | 13, v, _ => v = .bool (decide (bx + bs < wa))
 | 14, v, _ => v = .bool true
 | 15, v, _ => v = .bool true
 | 16, v, _ => v = undef
 | 17, v, _ => v = undef
 | 18, v, _ => v = undef
 | 19, v, _ => v = undef
 | 20, v, _ => v = undef
 | 21, v, _ => v = undef
 | 22, v, _ => v = undef
 | 23, v, _ => v = undef
 | 24, v, _ => v = .bool true
 | 25, v, _ => v = .bool true
 | 26, v, _ => v = undef
 | 27, v, _ => v = undef
 | 28, v, _ => v = undef
 | 29, v, _ => v = undef
 | 30, v, _ => v = undef
 | 31, v, _ => v = .bool true
 | _, _, _ => True
set_option maxRecDepth 100000 in
set_option maxHeartbeats 4000000 in
theorem vwB {Q : Exit → Act → World → Prop} {Be Lb Hb Tb : Nat} {bx bs wa wc : Int} {bY : Int} {wb : Int} {wd : Int} {w0 : World} {a0 : Act} {idq : Nat} {t0 t1 t2 t3 t4 t5 t6 t7 t8 t9 t10 t11 t12 t13 t14 t15 t16 t17 t18 t19 t20 t21 t22 t23 t24 t25 t26 t27 t28 t29 t30 t31 : TypeId} {q0 q1 q2 q3 q4 q5 q6 q7 q8 q9 q10 q11 q12 q13 q14 q15 q16 q17 q18 q19 q20 q21 q22 q23 q24 q25 q26 q27 q28 q29 q30 q31 : String}
   (d1 : Hid (decide (wc < bx) = false)) (d2 : Hid (decide (bx + bs < wa) = true)) (h1 : a0.tmps[1]? = some (.pointer (some ⟨Be, 0, none⟩))) (h7 : a0.tmps[7]? = some (.pointer (some ⟨Lb, 0, none⟩))) (h8 : a0.tmps[8]? = some (.pointer (some ⟨Hb, 0, none⟩))) (h11 : a0.tmps[11]? = some (.pointer (some ⟨Tb, 0, none⟩))) (k0 : w0.cell? ⟨Hb, 0, none⟩ = some (.int .i64 wc)) (l0 : (⟨Hb, 0, none⟩ : Addr).block < w0.heap.size) (k1 : w0.cell? ⟨Hb, 1, none⟩ = some (.int .i64 wd)) (l1 : (⟨Hb, 1, none⟩ : Addr).block < w0.heap.size) (k2 : w0.cell? ⟨Lb, 0, none⟩ = some (.int .i64 wa)) (l2 : (⟨Lb, 0, none⟩ : Addr).block < w0.heap.size) (k3 : w0.cell? ⟨Lb, 1, none⟩ = some (.int .i64 wb)) (l3 : (⟨Lb, 1, none⟩ : Addr).block < w0.heap.size) (k4 : w0.cell? ⟨Tb, 0, none⟩ = some (.int .i64 (bx + bs))) (l4 : (⟨Tb, 0, none⟩ : Addr).block < w0.heap.size) (k5 : w0.cell? ⟨Tb, 1, none⟩ = some (.int .i64 (bY + bs))) (l5 : (⟨Tb, 1, none⟩ : Addr).block < w0.heap.size) (k6 : w0.cell? ⟨Be, 0, none⟩ = some (.int .i64 bx)) (l6 : (⟨Be, 0, none⟩ : Addr).block < w0.heap.size) (k7 : w0.cell? ⟨Be, 1, none⟩ = some (.int .i64 bY)) (l7 : (⟨Be, 1, none⟩ : Addr).block < w0.heap.size) (hz : a0.tmps.size = 87)
   (hQ : ∀ aq W, aq.tmps.size = a0.tmps.size → aq.defers = a0.defers → (∀ e, e ∉ ([18, 19, 20, 21, 22, 23, 24, 25, 26, 27, 28, 29, 30, 31, 32, 33, 34, 35, 36, 37, 38, 39, 40, 41, 42, 43, 44, 45, 46, 47, 48, 49] : List Nat) → aq.tmps[e]? = a0.tmps[e]?) → VvwB Be Lb Hb Tb bx bs wa wc w0.heap.size 31 (aq.tmps.getD 49 undef) W → Below w0.heap.size w0 W → Q .normal aq W) :
   (Code.region idq #[{ dst := some 18, op := Op.fieldAddr 37 (Operand.tmp 8) 0, type := t0, pos := q0, after := #[], guard := none },
   { dst := some 19, op := Op.load 2 (Operand.tmp 18), type := t1, pos := q1, after := #[{ on := 0, ground := Ground.data }], guard := none },
   { dst := some 20, op := Op.move (Operand.tmp 1), type := t2, pos := q2, after := #[], guard := none },
   { dst := some 21, op := Op.nilCheck (Operand.tmp 20), type := t3, pos := q3, after := #[{ on := 2, ground := Ground.data }], guard := none },
   { dst := some 22, op := Op.fieldAddr 99 (Operand.tmp 21) 0, type := t4, pos := q4, after := #[{ on := 3, ground := Ground.data }], guard := none },
   { dst := some 23, op := Op.fieldAddr 37 (Operand.tmp 22) 0, type := t5, pos := q5, after := #[{ on := 4, ground := Ground.data }], guard := none },
   { dst := some 24, op := Op.load 2 (Operand.tmp 23), type := t6, pos := q6, after := #[{ on := 5, ground := Ground.data }], guard := none },
   { dst := some 25, op := Op.binOp BinOp.lss 2 (Operand.tmp 19) (Operand.tmp 24) 2, type := t7, pos := q7, after := #[{ on := 1, ground := Ground.data }, { on := 6, ground := Ground.data }], guard := none },
   { dst := some 26, op := Op.move (Operand.tmp 25), type := t8, pos := q8, after := #[{ on := 7, ground := Ground.data }], guard := none },
   { dst := some 27, op := Op.fieldAddr 37 (Operand.tmp 11) 0, type := t9, pos := q9, after := #[{ on := 8, ground := Ground.guard }], guard := some (8, false) },
   { dst := some 28, op := Op.load 2 (Operand.tmp 27), type := t10, pos := q10, after := #[{ on := 9, ground := Ground.data }, { on := 8, ground := Ground.guard }], guard := some (8, false) },
   { dst := some 29, op := Op.fieldAddr 37 (Operand.tmp 7) 0, type := t11, pos := q11, after := #[{ on := 8, ground := Ground.guard }], guard := some (8, false) },
   { dst := some 30, op := Op.load 2 (Operand.tmp 29), type := t12, pos := q12, after := #[{ on := 11, ground := Ground.data }, { on := 8, ground := Ground.guard }], guard := some (8, false) },
   { dst := some 31, op := Op.binOp BinOp.lss 2 (Operand.tmp 28) (Operand.tmp 30) 2, type := t13, pos := q13, after := #[{ on := 10, ground := Ground.data }, { on := 12, ground := Ground.data }, { on := 8, ground := Ground.guard }], guard := some (8, false) },
   { dst := some 32, op := Op.pick (Operand.tmp 26) (Operand.const (Value.bool true)) (Operand.tmp 31), type := t14, pos := q14, after := #[{ on := 8, ground := Ground.data }, { on := 13, ground := Ground.data }], guard := none },
   { dst := some 33, op := Op.move (Operand.tmp 32), type := t15, pos := q15, after := #[{ on := 14, ground := Ground.data }, { on := 8, ground := Ground.chain }], guard := none },
   { dst := some 34, op := Op.fieldAddr 37 (Operand.tmp 8) 1, type := t16, pos := q16, after := #[{ on := 15, ground := Ground.guard }], guard := some (15, false) },
   { dst := some 35, op := Op.load 2 (Operand.tmp 34), type := t17, pos := q17, after := #[{ on := 16, ground := Ground.data }, { on := 15, ground := Ground.guard }], guard := some (15, false) },
   { dst := some 36, op := Op.move (Operand.tmp 1), type := t18, pos := q18, after := #[{ on := 15, ground := Ground.guard }], guard := some (15, false) },
   { dst := some 37, op := Op.nilCheck (Operand.tmp 36), type := t19, pos := q19, after := #[{ on := 18, ground := Ground.data }, { on := 15, ground := Ground.guard }], guard := some (15, false) },
   { dst := some 38, op := Op.fieldAddr 99 (Operand.tmp 37) 0, type := t20, pos := q20, after := #[{ on := 19, ground := Ground.data }, { on := 15, ground := Ground.guard }], guard := some (15, false) },
   { dst := some 39, op := Op.fieldAddr 37 (Operand.tmp 38) 1, type := t21, pos := q21, after := #[{ on := 20, ground := Ground.data }, { on := 15, ground := Ground.guard }], guard := some (15, false) },
   { dst := some 40, op := Op.load 2 (Operand.tmp 39), type := t22, pos := q22, after := #[{ on := 21, ground := Ground.data }, { on := 15, ground := Ground.guard }], guard := some (15, false) },
   { dst := some 41, op := Op.binOp BinOp.lss 2 (Operand.tmp 35) (Operand.tmp 40) 2, type := t23, pos := q23, after := #[{ on := 17, ground := Ground.data }, { on := 22, ground := Ground.data }, { on := 15, ground := Ground.guard }], guard := some (15, false) },
   { dst := some 42, op := Op.pick (Operand.tmp 33) (Operand.const (Value.bool true)) (Operand.tmp 41), type := t24, pos := q24, after := #[{ on := 15, ground := Ground.data }, { on := 23, ground := Ground.data }], guard := none },
   { dst := some 43, op := Op.move (Operand.tmp 42), type := t25, pos := q25, after := #[{ on := 24, ground := Ground.data }, { on := 15, ground := Ground.chain }], guard := none },
   { dst := some 44, op := Op.fieldAddr 37 (Operand.tmp 11) 1, type := t26, pos := q26, after := #[{ on := 25, ground := Ground.guard }], guard := some (25, false) },
   { dst := some 45, op := Op.load 2 (Operand.tmp 44), type := t27, pos := q27, after := #[{ on := 26, ground := Ground.data }, { on := 25, ground := Ground.guard }], guard := some (25, false) },
   { dst := some 46, op := Op.fieldAddr 37 (Operand.tmp 7) 1, type := t28, pos := q28, after := #[{ on := 25, ground := Ground.guard }], guard := some (25, false) },
   { dst := some 47, op := Op.load 2 (Operand.tmp 46), type := t29, pos := q29, after := #[{ on := 28, ground := Ground.data }, { on := 25, ground := Ground.guard }], guard := some (25, false) },
   { dst := some 48, op := Op.binOp BinOp.lss 2 (Operand.tmp 45) (Operand.tmp 47) 2, type := t30, pos := q30, after := #[{ on := 27, ground := Ground.data }, { on := 29, ground := Ground.data }, { on := 25, ground := Ground.guard }], guard := some (25, false) },
   { dst := some 49, op := Op.pick (Operand.tmp 43) (Operand.const (Value.bool true)) (Operand.tmp 48), type := t31, pos := q31, after := #[{ on := 25, ground := Ground.data }, { on := 30, ground := Ground.data }], guard := none }] true).wp Try.prog Q a0 w0 := by
 have hS : distS [some 18, some 19, some 20, some 21, some 22, some 23, some 24, some 25, some 26, some 27, some 28, some 29, some 30, some 31, some 32, some 33, some 34, some 35, some 36, some 37, some 38, some 39, some 40, some 41, some 42, some 43, some 44, some 45, some 46, some 47, some 48, some 49] = true := rfl
 refine wp_region_q (by kernel_rfl) w0.heap.size [some 18, some 19, some 20, some 21, some 22, some 23, some 24, some 25, some 26, some 27, some 28, some 29, some 30, some 31, some 32, some 33, some 34, some 35, some 36, some 37, some 38, some 39, some 40, some 41, some 42, some 43, some 44, some 45, some 46, some 47, some 48, some 49] (VvwB Be Lb Hb Tb bx bs wa wc w0.heap.size) rfl ?_ ?_
 · intro Q lq aq W iq oq hJ hl ho hall
   have hJ2 := hJ
   obtain ⟨z1, z2, z3, z4, z5, z6, z7⟩ := hJ
   have g1 : aq.tmps.getD 1 undef = .pointer (some ⟨Be, 0, none⟩) := by rw [Array.getD_eq_getD_getElem?, z4 1 (by decide), h1]; rfl
   have g7 : aq.tmps.getD 7 undef = .pointer (some ⟨Lb, 0, none⟩) := by rw [Array.getD_eq_getD_getElem?, z4 7 (by decide), h7]; rfl
   have g8 : aq.tmps.getD 8 undef = .pointer (some ⟨Hb, 0, none⟩) := by rw [Array.getD_eq_getD_getElem?, z4 8 (by decide), h8]; rfl
   have g11 : aq.tmps.getD 11 undef = .pointer (some ⟨Tb, 0, none⟩) := by rw [Array.getD_eq_getD_getElem?, z4 11 (by decide), h11]; rfl
   have c0 : W.cell? ⟨Hb, 0, none⟩ = some (.int .i64 wc) := (z5.cell l0).trans k0
   have c1 : W.cell? ⟨Hb, 1, none⟩ = some (.int .i64 wd) := (z5.cell l1).trans k1
   have c2 : W.cell? ⟨Lb, 0, none⟩ = some (.int .i64 wa) := (z5.cell l2).trans k2
   have c3 : W.cell? ⟨Lb, 1, none⟩ = some (.int .i64 wb) := (z5.cell l3).trans k3
   have c4 : W.cell? ⟨Tb, 0, none⟩ = some (.int .i64 (bx + bs)) := (z5.cell l4).trans k4
   have c5 : W.cell? ⟨Tb, 1, none⟩ = some (.int .i64 (bY + bs)) := (z5.cell l5).trans k5
   have c6 : W.cell? ⟨Be, 0, none⟩ = some (.int .i64 bx) := (z5.cell l6).trans k6
   have c7 : W.cell? ⟨Be, 1, none⟩ = some (.int .i64 bY) := (z5.cell l7).trans k7
   match iq, ho with
   | 0, ho =>
     cases ho
     refine wpOp_of rfl rfl ?_
     have hK := fun (v : Value) (W2 : World) hW hT hv => hJ2.put hS 0 18 rfl (by omega) (W' := W2) hW hT v hv
     clear ho hall hl hQ
     generalize InvQ _ _ _ w0 a0 (lq.setIfInBounds 0 true) = K at hK ⊢
     clear hJ2 hS z1 z2 z3 z4 z6 z7
     go_simp
     exact hK _ _ z5 (fun _ _ h => h) rfl
   | 1, ho =>
     cases ho
     refine wpOp_of rfl rfl ?_
     have f0 : (aq.tmps.getD 18 undef) = .pointer (some ⟨Hb, 0, none⟩) := z6 0 18 (hall { on := 0, ground := Ground.data } (by simp) rfl) rfl
     have hK := fun (v : Value) (W2 : World) hW hT hv => hJ2.put hS 1 19 rfl (by omega) (W' := W2) hW hT v hv
     clear ho hall hl hQ
     generalize InvQ _ _ _ w0 a0 (lq.setIfInBounds 1 true) = K at hK ⊢
     clear hJ2 hS z1 z2 z3 z4 z6 z7
     go_simp
     exact hK _ _ z5 (fun _ _ h => h) rfl
   | 2, ho =>
     cases ho
     refine wpOp_of rfl rfl ?_
     have hK := fun (v : Value) (W2 : World) hW hT hv => hJ2.put hS 2 20 rfl (by omega) (W' := W2) hW hT v hv
     clear ho hall hl hQ
     generalize InvQ _ _ _ w0 a0 (lq.setIfInBounds 2 true) = K at hK ⊢
     clear hJ2 hS z1 z2 z3 z4 z6 z7
     go_simp
     exact hK _ _ z5 (fun _ _ h => h) rfl
   | 3, ho =>
     cases ho
     refine wpOp_of rfl rfl ?_
     have f2 : (aq.tmps.getD 20 undef) = .pointer (some ⟨Be, 0, none⟩) := z6 2 20 (hall { on := 2, ground := Ground.data } (by simp) rfl) rfl
     have hK := fun (v : Value) (W2 : World) hW hT hv => hJ2.put hS 3 21 rfl (by omega) (W' := W2) hW hT v hv
     clear ho hall hl hQ
     generalize InvQ _ _ _ w0 a0 (lq.setIfInBounds 3 true) = K at hK ⊢
     clear hJ2 hS z1 z2 z3 z4 z6 z7
     go_simp
     exact hK _ _ z5 (fun _ _ h => h) rfl
   | 4, ho =>
     cases ho
     refine wpOp_of rfl rfl ?_
     have f3 : (aq.tmps.getD 21 undef) = .pointer (some ⟨Be, 0, none⟩) := z6 3 21 (hall { on := 3, ground := Ground.data } (by simp) rfl) rfl
     have hK := fun (v : Value) (W2 : World) hW hT hv => hJ2.put hS 4 22 rfl (by omega) (W' := W2) hW hT v hv
     clear ho hall hl hQ
     generalize InvQ _ _ _ w0 a0 (lq.setIfInBounds 4 true) = K at hK ⊢
     clear hJ2 hS z1 z2 z3 z4 z6 z7
     go_simp
     exact hK _ _ z5 (fun _ _ h => h) rfl
   | 5, ho =>
     cases ho
     refine wpOp_of rfl rfl ?_
     have f4 : (aq.tmps.getD 22 undef) = .pointer (some ⟨Be, 0, none⟩) := z6 4 22 (hall { on := 4, ground := Ground.data } (by simp) rfl) rfl
     have hK := fun (v : Value) (W2 : World) hW hT hv => hJ2.put hS 5 23 rfl (by omega) (W' := W2) hW hT v hv
     clear ho hall hl hQ
     generalize InvQ _ _ _ w0 a0 (lq.setIfInBounds 5 true) = K at hK ⊢
     clear hJ2 hS z1 z2 z3 z4 z6 z7
     go_simp
     exact hK _ _ z5 (fun _ _ h => h) rfl
   | 6, ho =>
     cases ho
     refine wpOp_of rfl rfl ?_
     have f5 : (aq.tmps.getD 23 undef) = .pointer (some ⟨Be, 0, none⟩) := z6 5 23 (hall { on := 5, ground := Ground.data } (by simp) rfl) rfl
     have hK := fun (v : Value) (W2 : World) hW hT hv => hJ2.put hS 6 24 rfl (by omega) (W' := W2) hW hT v hv
     clear ho hall hl hQ
     generalize InvQ _ _ _ w0 a0 (lq.setIfInBounds 6 true) = K at hK ⊢
     clear hJ2 hS z1 z2 z3 z4 z6 z7
     go_simp
     exact hK _ _ z5 (fun _ _ h => h) rfl
   | 7, ho =>
     cases ho
     refine wpOp_of rfl rfl ?_
     have f1 : (aq.tmps.getD 19 undef) = .int .i64 (wc) := z6 1 19 (hall { on := 1, ground := Ground.data } (by simp) rfl) rfl
     have f6 : (aq.tmps.getD 24 undef) = .int .i64 (bx) := z6 6 24 (hall { on := 6, ground := Ground.data } (by simp) rfl) rfl
     have hK := fun (v : Value) (W2 : World) hW hT hv => hJ2.put hS 7 25 rfl (by omega) (W' := W2) hW hT v hv
     clear ho hall hl hQ
     generalize InvQ _ _ _ w0 a0 (lq.setIfInBounds 7 true) = K at hK ⊢
     clear hJ2 hS z1 z2 z3 z4 z6 z7
     go_simp
     exact hK _ _ z5 (fun _ _ h => h) rfl
   | 8, ho =>
     cases ho
     refine wpOp_of rfl rfl ?_
     have f7 : (aq.tmps.getD 25 undef) = .bool (decide (wc < bx)) := z6 7 25 (hall { on := 7, ground := Ground.data } (by simp) rfl) rfl
     rw [d1.out] at f7
     have hK := fun (v : Value) (W2 : World) hW hT hv => hJ2.put hS 8 26 rfl (by omega) (W' := W2) hW hT v hv
     clear ho hall hl hQ
     generalize InvQ _ _ _ w0 a0 (lq.setIfInBounds 8 true) = K at hK ⊢
     clear hJ2 hS z1 z2 z3 z4 z6 z7
     go_simp
     exact hK _ _ z5 (fun _ _ h => h) rfl
   | 9, ho =>
     cases ho
     have fg : aq.tmps.getD 26 undef = .bool false := z6 8 26 (hall { on := 8, ground := Ground.guard } (by simp) rfl) rfl
     refine wpOp_on rfl rfl rfl rfl fg ?_
     have hK := fun (v : Value) (W2 : World) hW hT hv => hJ2.put hS 9 27 rfl (by omega) (W' := W2) hW hT v hv
     clear ho hall hl hQ
     generalize InvQ _ _ _ w0 a0 (lq.setIfInBounds 9 true) = K at hK ⊢
     clear hJ2 hS z1 z2 z3 z4 z6 z7
     go_simp
     exact hK _ _ z5 (fun _ _ h => h) rfl
   | 10, ho =>
     cases ho
     have fg : aq.tmps.getD 26 undef = .bool false := z6 8 26 (hall { on := 8, ground := Ground.guard } (by simp) rfl) rfl
     refine wpOp_on rfl rfl rfl rfl fg ?_
     have f9 : (aq.tmps.getD 27 undef) = .pointer (some ⟨Tb, 0, none⟩) := z6 9 27 (hall { on := 9, ground := Ground.data } (by simp) rfl) rfl
     have hK := fun (v : Value) (W2 : World) hW hT hv => hJ2.put hS 10 28 rfl (by omega) (W' := W2) hW hT v hv
     clear ho hall hl hQ
     generalize InvQ _ _ _ w0 a0 (lq.setIfInBounds 10 true) = K at hK ⊢
     clear hJ2 hS z1 z2 z3 z4 z6 z7
     go_simp
     exact hK _ _ z5 (fun _ _ h => h) rfl
   | 11, ho =>
     cases ho
     have fg : aq.tmps.getD 26 undef = .bool false := z6 8 26 (hall { on := 8, ground := Ground.guard } (by simp) rfl) rfl
     refine wpOp_on rfl rfl rfl rfl fg ?_
     have hK := fun (v : Value) (W2 : World) hW hT hv => hJ2.put hS 11 29 rfl (by omega) (W' := W2) hW hT v hv
     clear ho hall hl hQ
     generalize InvQ _ _ _ w0 a0 (lq.setIfInBounds 11 true) = K at hK ⊢
     clear hJ2 hS z1 z2 z3 z4 z6 z7
     go_simp
     exact hK _ _ z5 (fun _ _ h => h) rfl
   | 12, ho =>
     cases ho
     have fg : aq.tmps.getD 26 undef = .bool false := z6 8 26 (hall { on := 8, ground := Ground.guard } (by simp) rfl) rfl
     refine wpOp_on rfl rfl rfl rfl fg ?_
     have f11 : (aq.tmps.getD 29 undef) = .pointer (some ⟨Lb, 0, none⟩) := z6 11 29 (hall { on := 11, ground := Ground.data } (by simp) rfl) rfl
     have hK := fun (v : Value) (W2 : World) hW hT hv => hJ2.put hS 12 30 rfl (by omega) (W' := W2) hW hT v hv
     clear ho hall hl hQ
     generalize InvQ _ _ _ w0 a0 (lq.setIfInBounds 12 true) = K at hK ⊢
     clear hJ2 hS z1 z2 z3 z4 z6 z7
     go_simp
     exact hK _ _ z5 (fun _ _ h => h) rfl
   | 13, ho =>
     cases ho
     have fg : aq.tmps.getD 26 undef = .bool false := z6 8 26 (hall { on := 8, ground := Ground.guard } (by simp) rfl) rfl
     refine wpOp_on rfl rfl rfl rfl fg ?_
     have f10 : (aq.tmps.getD 28 undef) = .int .i64 (bx + bs) := z6 10 28 (hall { on := 10, ground := Ground.data } (by simp) rfl) rfl
     have f12 : (aq.tmps.getD 30 undef) = .int .i64 (wa) := z6 12 30 (hall { on := 12, ground := Ground.data } (by simp) rfl) rfl
     have hK := fun (v : Value) (W2 : World) hW hT hv => hJ2.put hS 13 31 rfl (by omega) (W' := W2) hW hT v hv
     clear ho hall hl hQ
     generalize InvQ _ _ _ w0 a0 (lq.setIfInBounds 13 true) = K at hK ⊢
     clear hJ2 hS z1 z2 z3 z4 z6 z7
     go_simp
     exact hK _ _ z5 (fun _ _ h => h) rfl
   | 14, ho =>
     cases ho
     refine wpOp_of rfl rfl ?_
     have f8 : (aq.tmps.getD 26 undef) = .bool false := z6 8 26 (hall { on := 8, ground := Ground.data } (by simp) rfl) rfl
     have f13 : (aq.tmps.getD 31 undef) = .bool (decide (bx + bs < wa)) := z6 13 31 (hall { on := 13, ground := Ground.data } (by simp) rfl) rfl
     rw [d2.out] at f13
     have hK := fun (v : Value) (W2 : World) hW hT hv => hJ2.put hS 14 32 rfl (by omega) (W' := W2) hW hT v hv
     clear ho hall hl hQ
     generalize InvQ _ _ _ w0 a0 (lq.setIfInBounds 14 true) = K at hK ⊢
     clear hJ2 hS z1 z2 z3 z4 z6 z7
     go_simp
     exact hK _ _ z5 (fun _ _ h => h) rfl
   | 15, ho =>
     cases ho
     refine wpOp_of rfl rfl ?_
     have f14 : (aq.tmps.getD 32 undef) = .bool true := z6 14 32 (hall { on := 14, ground := Ground.data } (by simp) rfl) rfl
     have hK := fun (v : Value) (W2 : World) hW hT hv => hJ2.put hS 15 33 rfl (by omega) (W' := W2) hW hT v hv
     clear ho hall hl hQ
     generalize InvQ _ _ _ w0 a0 (lq.setIfInBounds 15 true) = K at hK ⊢
     clear hJ2 hS z1 z2 z3 z4 z6 z7
     go_simp
     exact hK _ _ z5 (fun _ _ h => h) rfl
   | 16, ho =>
     cases ho
     have fg : aq.tmps.getD 33 undef = .bool true := z6 15 33 (hall { on := 15, ground := Ground.guard } (by simp) rfl) rfl
     refine wpOp_off rfl rfl rfl rfl fg ?_
     exact hJ2.put hS 16 34 rfl (by omega) z5 (fun _ _ h => h) undef rfl
   | 17, ho =>
     cases ho
     have fg : aq.tmps.getD 33 undef = .bool true := z6 15 33 (hall { on := 15, ground := Ground.guard } (by simp) rfl) rfl
     refine wpOp_off rfl rfl rfl rfl fg ?_
     exact hJ2.put hS 17 35 rfl (by omega) z5 (fun _ _ h => h) undef rfl
   | 18, ho =>
     cases ho
     have fg : aq.tmps.getD 33 undef = .bool true := z6 15 33 (hall { on := 15, ground := Ground.guard } (by simp) rfl) rfl
     refine wpOp_off rfl rfl rfl rfl fg ?_
     exact hJ2.put hS 18 36 rfl (by omega) z5 (fun _ _ h => h) undef rfl
   | 19, ho =>
     cases ho
     have fg : aq.tmps.getD 33 undef = .bool true := z6 15 33 (hall { on := 15, ground := Ground.guard } (by simp) rfl) rfl
     refine wpOp_off rfl rfl rfl rfl fg ?_
     exact hJ2.put hS 19 37 rfl (by omega) z5 (fun _ _ h => h) undef rfl
   | 20, ho =>
     cases ho
     have fg : aq.tmps.getD 33 undef = .bool true := z6 15 33 (hall { on := 15, ground := Ground.guard } (by simp) rfl) rfl
     refine wpOp_off rfl rfl rfl rfl fg ?_
     exact hJ2.put hS 20 38 rfl (by omega) z5 (fun _ _ h => h) undef rfl
   | 21, ho =>
     cases ho
     have fg : aq.tmps.getD 33 undef = .bool true := z6 15 33 (hall { on := 15, ground := Ground.guard } (by simp) rfl) rfl
     refine wpOp_off rfl rfl rfl rfl fg ?_
     exact hJ2.put hS 21 39 rfl (by omega) z5 (fun _ _ h => h) undef rfl
   | 22, ho =>
     cases ho
     have fg : aq.tmps.getD 33 undef = .bool true := z6 15 33 (hall { on := 15, ground := Ground.guard } (by simp) rfl) rfl
     refine wpOp_off rfl rfl rfl rfl fg ?_
     exact hJ2.put hS 22 40 rfl (by omega) z5 (fun _ _ h => h) undef rfl
   | 23, ho =>
     cases ho
     have fg : aq.tmps.getD 33 undef = .bool true := z6 15 33 (hall { on := 15, ground := Ground.guard } (by simp) rfl) rfl
     refine wpOp_off rfl rfl rfl rfl fg ?_
     exact hJ2.put hS 23 41 rfl (by omega) z5 (fun _ _ h => h) undef rfl
   | 24, ho =>
     cases ho
     refine wpOp_of rfl rfl ?_
     have f15 : (aq.tmps.getD 33 undef) = .bool true := z6 15 33 (hall { on := 15, ground := Ground.data } (by simp) rfl) rfl
     have f23 : (aq.tmps.getD 41 undef) = undef := z6 23 41 (hall { on := 23, ground := Ground.data } (by simp) rfl) rfl
     have hK := fun (v : Value) (W2 : World) hW hT hv => hJ2.put hS 24 42 rfl (by omega) (W' := W2) hW hT v hv
     clear ho hall hl hQ
     generalize InvQ _ _ _ w0 a0 (lq.setIfInBounds 24 true) = K at hK ⊢
     clear hJ2 hS z1 z2 z3 z4 z6 z7
     go_simp
     exact hK _ _ z5 (fun _ _ h => h) rfl
   | 25, ho =>
     cases ho
     refine wpOp_of rfl rfl ?_
     have f24 : (aq.tmps.getD 42 undef) = .bool true := z6 24 42 (hall { on := 24, ground := Ground.data } (by simp) rfl) rfl
     have hK := fun (v : Value) (W2 : World) hW hT hv => hJ2.put hS 25 43 rfl (by omega) (W' := W2) hW hT v hv
     clear ho hall hl hQ
     generalize InvQ _ _ _ w0 a0 (lq.setIfInBounds 25 true) = K at hK ⊢
     clear hJ2 hS z1 z2 z3 z4 z6 z7
     go_simp
     exact hK _ _ z5 (fun _ _ h => h) rfl
   | 26, ho =>
     cases ho
     have fg : aq.tmps.getD 43 undef = .bool true := z6 25 43 (hall { on := 25, ground := Ground.guard } (by simp) rfl) rfl
     refine wpOp_off rfl rfl rfl rfl fg ?_
     exact hJ2.put hS 26 44 rfl (by omega) z5 (fun _ _ h => h) undef rfl
   | 27, ho =>
     cases ho
     have fg : aq.tmps.getD 43 undef = .bool true := z6 25 43 (hall { on := 25, ground := Ground.guard } (by simp) rfl) rfl
     refine wpOp_off rfl rfl rfl rfl fg ?_
     exact hJ2.put hS 27 45 rfl (by omega) z5 (fun _ _ h => h) undef rfl
   | 28, ho =>
     cases ho
     have fg : aq.tmps.getD 43 undef = .bool true := z6 25 43 (hall { on := 25, ground := Ground.guard } (by simp) rfl) rfl
     refine wpOp_off rfl rfl rfl rfl fg ?_
     exact hJ2.put hS 28 46 rfl (by omega) z5 (fun _ _ h => h) undef rfl
   | 29, ho =>
     cases ho
     have fg : aq.tmps.getD 43 undef = .bool true := z6 25 43 (hall { on := 25, ground := Ground.guard } (by simp) rfl) rfl
     refine wpOp_off rfl rfl rfl rfl fg ?_
     exact hJ2.put hS 29 47 rfl (by omega) z5 (fun _ _ h => h) undef rfl
   | 30, ho =>
     cases ho
     have fg : aq.tmps.getD 43 undef = .bool true := z6 25 43 (hall { on := 25, ground := Ground.guard } (by simp) rfl) rfl
     refine wpOp_off rfl rfl rfl rfl fg ?_
     exact hJ2.put hS 30 48 rfl (by omega) z5 (fun _ _ h => h) undef rfl
   | 31, ho =>
     cases ho
     refine wpOp_of rfl rfl ?_
     have f25 : (aq.tmps.getD 43 undef) = .bool true := z6 25 43 (hall { on := 25, ground := Ground.data } (by simp) rfl) rfl
     have f30 : (aq.tmps.getD 48 undef) = undef := z6 30 48 (hall { on := 30, ground := Ground.data } (by simp) rfl) rfl
     have hK := fun (v : Value) (W2 : World) hW hT hv => hJ2.put hS 31 49 rfl (by omega) (W' := W2) hW hT v hv
     clear ho hall hl hQ
     generalize InvQ _ _ _ w0 a0 (lq.setIfInBounds 31 true) = K at hK ⊢
     clear hJ2 hS z1 z2 z3 z4 z6 z7
     go_simp
     exact hK _ _ z5 (fun _ _ h => h) rfl
   | iq + 32, ho => simp at ho
 · intro lq aq W hJ hr
   obtain ⟨z1, z2, z3, z4, z5, z6, z7⟩ := hJ
   have hl := listed_of hr [0, 1, 2, 3, 4, 5, 6, 7, 8, 9, 10, 11, 12, 13, 14, 15, 16, 17, 18, 19, 20, 21, 22, 23, 24, 25, 26, 27, 28, 29, 30, 31] [] (by simp) (by kernel_rfl) (by rw [z1]; decide)
   exact hQ aq W z2 z3 (fun e he => z4 e (by simpa using he)) (z6 31 49 (hl 31 (by simp)) rfl) z5
def VvwC (Be Lb Hb Tb : Nat) (bx bY bs wa wc wd : Int) (_B : Nat) : Nat → Value → World → Prop
 | 0, v, _ => v = .pointer (some ⟨Hb, 0, none⟩)
 | 1, v, _ => v = .int .i64 (wc)
 | 2, v, _ => v = .pointer (some ⟨Be, 0, none⟩)
 | 3, v, _ => v = .pointer (some ⟨Be, 0, none⟩)
 | 4, v, _ => v = .pointer (some ⟨Be, 0, none⟩)
 | 5, v, _ => v = .pointer (some ⟨Be, 0, none⟩)
 | 6, v, _ => v = .int .i64 (bx)
 | 7, v, _ => v = .bool (decide (wc < bx))
 | 8, v, _ => v = .bool false
 | 9, v, _ => v = .pointer (some ⟨Tb, 0, none⟩)
 | 10, v, _ => v = .int .i64 (bx + bs)
 | 11, v, _ => v = .pointer (some ⟨Lb, 0, none⟩)
 | 12, v, _ => v = .int .i64 (wa)
 | 13, v, _ => v = .bool (decide (bx + bs < wa))
 | 14, v, _ => v = .bool false
 | 15, v, _ => v = .bool false
 | 16, v, _ => v = .pointer (some ⟨Hb, 1, none⟩)
 | 17, v, _ => v = .int .i64 (wd)
 | 18, v, _ => v = .pointer (some ⟨Be, 0, none⟩)
 | 19, v, _ => v = .pointer (some ⟨Be, 0, none⟩)
 | 20, v, _ => v = .pointer (some ⟨Be, 0, none⟩)
 | 21, v, _ => v = .pointer (some ⟨Be, 1, none⟩)
 | 22, v, _ => v = .int .i64 (bY)
 | 23, v, _ => v = .bool (decide (wd < bY))
 | 24, v, _ => v = .bool true
 | 25, v, _ => v = .bool true
 | 26, v, _ => v = undef
 | 27, v, _ => v = undef
 | 28, v, _ => v = undef
 | 29, v, _ => v = undef
 | 30, v, _ => v = undef
 | 31, v, _ => v = .bool true
 | _, _, _ => True
set_option maxRecDepth 100000 in
set_option maxHeartbeats 4000000 in
theorem vwC {Q : Exit → Act → World → Prop} {Be Lb Hb Tb : Nat} {bx bY bs wa wc wd : Int} {wb : Int} {w0 : World} {a0 : Act} {idq : Nat} {t0 t1 t2 t3 t4 t5 t6 t7 t8 t9 t10 t11 t12 t13 t14 t15 t16 t17 t18 t19 t20 t21 t22 t23 t24 t25 t26 t27 t28 t29 t30 t31 : TypeId} {q0 q1 q2 q3 q4 q5 q6 q7 q8 q9 q10 q11 q12 q13 q14 q15 q16 q17 q18 q19 q20 q21 q22 q23 q24 q25 q26 q27 q28 q29 q30 q31 : String}
   (d1 : Hid (decide (wc < bx) = false)) (d2 : Hid (decide (bx + bs < wa) = false)) (d3 : Hid (decide (wd < bY) = true)) (h1 : a0.tmps[1]? = some (.pointer (some ⟨Be, 0, none⟩))) (h7 : a0.tmps[7]? = some (.pointer (some ⟨Lb, 0, none⟩))) (h8 : a0.tmps[8]? = some (.pointer (some ⟨Hb, 0, none⟩))) (h11 : a0.tmps[11]? = some (.pointer (some ⟨Tb, 0, none⟩))) (k0 : w0.cell? ⟨Hb, 0, none⟩ = some (.int .i64 wc)) (l0 : (⟨Hb, 0, none⟩ : Addr).block < w0.heap.size) (k1 : w0.cell? ⟨Hb, 1, none⟩ = some (.int .i64 wd)) (l1 : (⟨Hb, 1, none⟩ : Addr).block < w0.heap.size) (k2 : w0.cell? ⟨Lb, 0, none⟩ = some (.int .i64 wa)) (l2 : (⟨Lb, 0, none⟩ : Addr).block < w0.heap.size) (k3 : w0.cell? ⟨Lb, 1, none⟩ = some (.int .i64 wb)) (l3 : (⟨Lb, 1, none⟩ : Addr).block < w0.heap.size) (k4 : w0.cell? ⟨Tb, 0, none⟩ = some (.int .i64 (bx + bs))) (l4 : (⟨Tb, 0, none⟩ : Addr).block < w0.heap.size) (k5 : w0.cell? ⟨Tb, 1, none⟩ = some (.int .i64 (bY + bs))) (l5 : (⟨Tb, 1, none⟩ : Addr).block < w0.heap.size) (k6 : w0.cell? ⟨Be, 0, none⟩ = some (.int .i64 bx)) (l6 : (⟨Be, 0, none⟩ : Addr).block < w0.heap.size) (k7 : w0.cell? ⟨Be, 1, none⟩ = some (.int .i64 bY)) (l7 : (⟨Be, 1, none⟩ : Addr).block < w0.heap.size) (hz : a0.tmps.size = 87)
   (hQ : ∀ aq W, aq.tmps.size = a0.tmps.size → aq.defers = a0.defers → (∀ e, e ∉ ([18, 19, 20, 21, 22, 23, 24, 25, 26, 27, 28, 29, 30, 31, 32, 33, 34, 35, 36, 37, 38, 39, 40, 41, 42, 43, 44, 45, 46, 47, 48, 49] : List Nat) → aq.tmps[e]? = a0.tmps[e]?) → VvwC Be Lb Hb Tb bx bY bs wa wc wd w0.heap.size 31 (aq.tmps.getD 49 undef) W → Below w0.heap.size w0 W → Q .normal aq W) :
   (Code.region idq #[{ dst := some 18, op := Op.fieldAddr 37 (Operand.tmp 8) 0, type := t0, pos := q0, after := #[], guard := none },
   { dst := some 19, op := Op.load 2 (Operand.tmp 18), type := t1, pos := q1, after := #[{ on := 0, ground := Ground.data }], guard := none },
   { dst := some 20, op := Op.move (Operand.tmp 1), type := t2, pos := q2, after := #[], guard := none },
   { dst := some 21, op := Op.nilCheck (Operand.tmp 20), type := t3, pos := q3, after := #[{ on := 2, ground := Ground.data }], guard := none },
   { dst := some 22, op := Op.fieldAddr 99 (Operand.tmp 21) 0, type := t4, pos := q4, after := #[{ on := 3, ground := Ground.data }], guard := none },
   { dst := some 23, op := Op.fieldAddr 37 (Operand.tmp 22) 0, type := t5, pos := q5, after := #[{ on := 4, ground := Ground.data }], guard := none },
   { dst := some 24, op := Op.load 2 (Operand.tmp 23), type := t6, pos := q6, after := #[{ on := 5, ground := Ground.data }], guard := none },
   { dst := some 25, op := Op.binOp BinOp.lss 2 (Operand.tmp 19) (Operand.tmp 24) 2, type := t7, pos := q7, after := #[{ on := 1, ground := Ground.data }, { on := 6, ground := Ground.data }], guard := none },
   { dst := some 26, op := Op.move (Operand.tmp 25), type := t8, pos := q8, after := #[{ on := 7, ground := Ground.data }], guard := none },
   { dst := some 27, op := Op.fieldAddr 37 (Operand.tmp 11) 0, type := t9, pos := q9, after := #[{ on := 8, ground := Ground.guard }], guard := some (8, false) },
   { dst := some 28, op := Op.load 2 (Operand.tmp 27), type := t10, pos := q10, after := #[{ on := 9, ground := Ground.data }, { on := 8, ground := Ground.guard }], guard := some (8, false) },
   { dst := some 29, op := Op.fieldAddr 37 (Operand.tmp 7) 0, type := t11, pos := q11, after := #[{ on := 8, ground := Ground.guard }], guard := some (8, false) },
   { dst := some 30, op := Op.load 2 (Operand.tmp 29), type := t12, pos := q12, after := #[{ on := 11, ground := Ground.data }, { on := 8, ground := Ground.guard }], guard := some (8, false) },
   { dst := some 31, op := Op.binOp BinOp.lss 2 (Operand.tmp 28) (Operand.tmp 30) 2, type := t13, pos := q13, after := #[{ on := 10, ground := Ground.data }, { on := 12, ground := Ground.data }, { on := 8, ground := Ground.guard }], guard := some (8, false) },
   { dst := some 32, op := Op.pick (Operand.tmp 26) (Operand.const (Value.bool true)) (Operand.tmp 31), type := t14, pos := q14, after := #[{ on := 8, ground := Ground.data }, { on := 13, ground := Ground.data }], guard := none },
   { dst := some 33, op := Op.move (Operand.tmp 32), type := t15, pos := q15, after := #[{ on := 14, ground := Ground.data }, { on := 8, ground := Ground.chain }], guard := none },
   { dst := some 34, op := Op.fieldAddr 37 (Operand.tmp 8) 1, type := t16, pos := q16, after := #[{ on := 15, ground := Ground.guard }], guard := some (15, false) },
   { dst := some 35, op := Op.load 2 (Operand.tmp 34), type := t17, pos := q17, after := #[{ on := 16, ground := Ground.data }, { on := 15, ground := Ground.guard }], guard := some (15, false) },
   { dst := some 36, op := Op.move (Operand.tmp 1), type := t18, pos := q18, after := #[{ on := 15, ground := Ground.guard }], guard := some (15, false) },
   { dst := some 37, op := Op.nilCheck (Operand.tmp 36), type := t19, pos := q19, after := #[{ on := 18, ground := Ground.data }, { on := 15, ground := Ground.guard }], guard := some (15, false) },
   { dst := some 38, op := Op.fieldAddr 99 (Operand.tmp 37) 0, type := t20, pos := q20, after := #[{ on := 19, ground := Ground.data }, { on := 15, ground := Ground.guard }], guard := some (15, false) },
   { dst := some 39, op := Op.fieldAddr 37 (Operand.tmp 38) 1, type := t21, pos := q21, after := #[{ on := 20, ground := Ground.data }, { on := 15, ground := Ground.guard }], guard := some (15, false) },
   { dst := some 40, op := Op.load 2 (Operand.tmp 39), type := t22, pos := q22, after := #[{ on := 21, ground := Ground.data }, { on := 15, ground := Ground.guard }], guard := some (15, false) },
   { dst := some 41, op := Op.binOp BinOp.lss 2 (Operand.tmp 35) (Operand.tmp 40) 2, type := t23, pos := q23, after := #[{ on := 17, ground := Ground.data }, { on := 22, ground := Ground.data }, { on := 15, ground := Ground.guard }], guard := some (15, false) },
   { dst := some 42, op := Op.pick (Operand.tmp 33) (Operand.const (Value.bool true)) (Operand.tmp 41), type := t24, pos := q24, after := #[{ on := 15, ground := Ground.data }, { on := 23, ground := Ground.data }], guard := none },
   { dst := some 43, op := Op.move (Operand.tmp 42), type := t25, pos := q25, after := #[{ on := 24, ground := Ground.data }, { on := 15, ground := Ground.chain }], guard := none },
   { dst := some 44, op := Op.fieldAddr 37 (Operand.tmp 11) 1, type := t26, pos := q26, after := #[{ on := 25, ground := Ground.guard }], guard := some (25, false) },
   { dst := some 45, op := Op.load 2 (Operand.tmp 44), type := t27, pos := q27, after := #[{ on := 26, ground := Ground.data }, { on := 25, ground := Ground.guard }], guard := some (25, false) },
   { dst := some 46, op := Op.fieldAddr 37 (Operand.tmp 7) 1, type := t28, pos := q28, after := #[{ on := 25, ground := Ground.guard }], guard := some (25, false) },
   { dst := some 47, op := Op.load 2 (Operand.tmp 46), type := t29, pos := q29, after := #[{ on := 28, ground := Ground.data }, { on := 25, ground := Ground.guard }], guard := some (25, false) },
   { dst := some 48, op := Op.binOp BinOp.lss 2 (Operand.tmp 45) (Operand.tmp 47) 2, type := t30, pos := q30, after := #[{ on := 27, ground := Ground.data }, { on := 29, ground := Ground.data }, { on := 25, ground := Ground.guard }], guard := some (25, false) },
   { dst := some 49, op := Op.pick (Operand.tmp 43) (Operand.const (Value.bool true)) (Operand.tmp 48), type := t31, pos := q31, after := #[{ on := 25, ground := Ground.data }, { on := 30, ground := Ground.data }], guard := none }] true).wp Try.prog Q a0 w0 := by
 have hS : distS [some 18, some 19, some 20, some 21, some 22, some 23, some 24, some 25, some 26, some 27, some 28, some 29, some 30, some 31, some 32, some 33, some 34, some 35, some 36, some 37, some 38, some 39, some 40, some 41, some 42, some 43, some 44, some 45, some 46, some 47, some 48, some 49] = true := rfl
 refine wp_region_q (by kernel_rfl) w0.heap.size [some 18, some 19, some 20, some 21, some 22, some 23, some 24, some 25, some 26, some 27, some 28, some 29, some 30, some 31, some 32, some 33, some 34, some 35, some 36, some 37, some 38, some 39, some 40, some 41, some 42, some 43, some 44, some 45, some 46, some 47, some 48, some 49] (VvwC Be Lb Hb Tb bx bY bs wa wc wd w0.heap.size) rfl ?_ ?_
 · intro Q lq aq W iq oq hJ hl ho hall
   have hJ2 := hJ
   obtain ⟨z1, z2, z3, z4, z5, z6, z7⟩ := hJ
   have g1 : aq.tmps.getD 1 undef = .pointer (some ⟨Be, 0, none⟩) := by rw [Array.getD_eq_getD_getElem?, z4 1 (by decide), h1]; rfl
   have g7 : aq.tmps.getD 7 undef = .pointer (some ⟨Lb, 0, none⟩) := by rw [Array.getD_eq_getD_getElem?, z4 7 (by decide), h7]; rfl
   have g8 : aq.tmps.getD 8 undef = .pointer (some ⟨Hb, 0, none⟩) := by rw [Array.getD_eq_getD_getElem?, z4 8 (by decide), h8]; rfl
   have g11 : aq.tmps.getD 11 undef = .pointer (some ⟨Tb, 0, none⟩) := by rw [Array.getD_eq_getD_getElem?, z4 11 (by decide), h11]; rfl
   have c0 : W.cell? ⟨Hb, 0, none⟩ = some (.int .i64 wc) := (z5.cell l0).trans k0
   have c1 : W.cell? ⟨Hb, 1, none⟩ = some (.int .i64 wd) := (z5.cell l1).trans k1
   have c2 : W.cell? ⟨Lb, 0, none⟩ = some (.int .i64 wa) := (z5.cell l2).trans k2
   have c3 : W.cell? ⟨Lb, 1, none⟩ = some (.int .i64 wb) := (z5.cell l3).trans k3
   have c4 : W.cell? ⟨Tb, 0, none⟩ = some (.int .i64 (bx + bs)) := (z5.cell l4).trans k4
   have c5 : W.cell? ⟨Tb, 1, none⟩ = some (.int .i64 (bY + bs)) := (z5.cell l5).trans k5
   have c6 : W.cell? ⟨Be, 0, none⟩ = some (.int .i64 bx) := (z5.cell l6).trans k6
   have c7 : W.cell? ⟨Be, 1, none⟩ = some (.int .i64 bY) := (z5.cell l7).trans k7
   match iq, ho with
   | 0, ho =>
     cases ho
     refine wpOp_of rfl rfl ?_
     have hK := fun (v : Value) (W2 : World) hW hT hv => hJ2.put hS 0 18 rfl (by omega) (W' := W2) hW hT v hv
     clear ho hall hl hQ
     generalize InvQ _ _ _ w0 a0 (lq.setIfInBounds 0 true) = K at hK ⊢
     clear hJ2 hS z1 z2 z3 z4 z6 z7
     go_simp
     exact hK _ _ z5 (fun _ _ h => h) rfl
   | 1, ho =>
     cases ho
     refine wpOp_of rfl rfl ?_
     have f0 : (aq.tmps.getD 18 undef) = .pointer (some ⟨Hb, 0, none⟩) := z6 0 18 (hall { on := 0, ground := Ground.data } (by simp) rfl) rfl
     have hK := fun (v : Value) (W2 : World) hW hT hv => hJ2.put hS 1 19 rfl (by omega) (W' := W2) hW hT v hv
     clear ho hall hl hQ
     generalize InvQ _ _ _ w0 a0 (lq.setIfInBounds 1 true) = K at hK ⊢
     clear hJ2 hS z1 z2 z3 z4 z6 z7
     go_simp
     exact hK _ _ z5 (fun _ _ h => h) rfl
   | 2, ho =>
     cases ho
     refine wpOp_of rfl rfl ?_
     have hK := fun (v : Value) (W2 : World) hW hT hv => hJ2.put hS 2 20 rfl (by omega) (W' := W2) hW hT v hv
     clear ho hall hl hQ
     generalize InvQ _ _ _ w0 a0 (lq.setIfInBounds 2 true) = K at hK ⊢
     clear hJ2 hS z1 z2 z3 z4 z6 z7
     go_simp
     exact hK _ _ z5 (fun _ _ h => h) rfl
   | 3, ho =>
     cases ho
     refine wpOp_of rfl rfl ?_
     have f2 : (aq.tmps.getD 20 undef) = .pointer (some ⟨Be, 0, none⟩) := z6 2 20 (hall { on := 2, ground := Ground.data } (by simp) rfl) rfl
     have hK := fun (v : Value) (W2 : World) hW hT hv => hJ2.put hS 3 21 rfl (by omega) (W' := W2) hW hT v hv
     clear ho hall hl hQ
     generalize InvQ _ _ _ w0 a0 (lq.setIfInBounds 3 true) = K at hK ⊢
     clear hJ2 hS z1 z2 z3 z4 z6 z7
     go_simp
     exact hK _ _ z5 (fun _ _ h => h) rfl
   | 4, ho =>
     cases ho
     refine wpOp_of rfl rfl ?_
     have f3 : (aq.tmps.getD 21 undef) = .pointer (some ⟨Be, 0, none⟩) := z6 3 21 (hall { on := 3, ground := Ground.data } (by simp) rfl) rfl
     have hK := fun (v : Value) (W2 : World) hW hT hv => hJ2.put hS 4 22 rfl (by omega) (W' := W2) hW hT v hv
     clear ho hall hl hQ
     generalize InvQ _ _ _ w0 a0 (lq.setIfInBounds 4 true) = K at hK ⊢
     clear hJ2 hS z1 z2 z3 z4 z6 z7
     go_simp
     exact hK _ _ z5 (fun _ _ h => h) rfl
   | 5, ho =>
     cases ho
     refine wpOp_of rfl rfl ?_
     have f4 : (aq.tmps.getD 22 undef) = .pointer (some ⟨Be, 0, none⟩) := z6 4 22 (hall { on := 4, ground := Ground.data } (by simp) rfl) rfl
     have hK := fun (v : Value) (W2 : World) hW hT hv => hJ2.put hS 5 23 rfl (by omega) (W' := W2) hW hT v hv
     clear ho hall hl hQ
     generalize InvQ _ _ _ w0 a0 (lq.setIfInBounds 5 true) = K at hK ⊢
     clear hJ2 hS z1 z2 z3 z4 z6 z7
     go_simp
     exact hK _ _ z5 (fun _ _ h => h) rfl
   | 6, ho =>
     cases ho
     refine wpOp_of rfl rfl ?_
     have f5 : (aq.tmps.getD 23 undef) = .pointer (some ⟨Be, 0, none⟩) := z6 5 23 (hall { on := 5, ground := Ground.data } (by simp) rfl) rfl
     have hK := fun (v : Value) (W2 : World) hW hT hv => hJ2.put hS 6 24 rfl (by omega) (W' := W2) hW hT v hv
     clear ho hall hl hQ
     generalize InvQ _ _ _ w0 a0 (lq.setIfInBounds 6 true) = K at hK ⊢
     clear hJ2 hS z1 z2 z3 z4 z6 z7
     go_simp
     exact hK _ _ z5 (fun _ _ h => h) rfl
   | 7, ho =>
     cases ho
     refine wpOp_of rfl rfl ?_
     have f1 : (aq.tmps.getD 19 undef) = .int .i64 (wc) := z6 1 19 (hall { on := 1, ground := Ground.data } (by simp) rfl) rfl
     have f6 : (aq.tmps.getD 24 undef) = .int .i64 (bx) := z6 6 24 (hall { on := 6, ground := Ground.data } (by simp) rfl) rfl
     have hK := fun (v : Value) (W2 : World) hW hT hv => hJ2.put hS 7 25 rfl (by omega) (W' := W2) hW hT v hv
     clear ho hall hl hQ
     generalize InvQ _ _ _ w0 a0 (lq.setIfInBounds 7 true) = K at hK ⊢
     clear hJ2 hS z1 z2 z3 z4 z6 z7
     go_simp
     exact hK _ _ z5 (fun _ _ h => h) rfl
   | 8, ho =>
     cases ho
     refine wpOp_of rfl rfl ?_
     have f7 : (aq.tmps.getD 25 undef) = .bool (decide (wc < bx)) := z6 7 25 (hall { on := 7, ground := Ground.data } (by simp) rfl) rfl
     rw [d1.out] at f7
     have hK := fun (v : Value) (W2 : World) hW hT hv => hJ2.put hS 8 26 rfl (by omega) (W' := W2) hW hT v hv
     clear ho hall hl hQ
     generalize InvQ _ _ _ w0 a0 (lq.setIfInBounds 8 true) = K at hK ⊢
     clear hJ2 hS z1 z2 z3 z4 z6 z7
     go_simp
     exact hK _ _ z5 (fun _ _ h => h) rfl
   | 9, ho =>
     cases ho
     have fg : aq.tmps.getD 26 undef = .bool false := z6 8 26 (hall { on := 8, ground := Ground.guard } (by simp) rfl) rfl
     refine wpOp_on rfl rfl rfl rfl fg ?_
     have hK := fun (v : Value) (W2 : World) hW hT hv => hJ2.put hS 9 27 rfl (by omega) (W' := W2) hW hT v hv
     clear ho hall hl hQ
     generalize InvQ _ _ _ w0 a0 (lq.setIfInBounds 9 true) = K at hK ⊢
     clear hJ2 hS z1 z2 z3 z4 z6 z7
     go_simp
     exact hK _ _ z5 (fun _ _ h => h) rfl
   | 10, ho =>
     cases ho
     have fg : aq.tmps.getD 26 undef = .bool false := z6 8 26 (hall { on := 8, ground := Ground.guard } (by simp) rfl) rfl
     refine wpOp_on rfl rfl rfl rfl fg ?_
     have f9 : (aq.tmps.getD 27 undef) = .pointer (some ⟨Tb, 0, none⟩) := z6 9 27 (hall { on := 9, ground := Ground.data } (by simp) rfl) rfl
     have hK := fun (v : Value) (W2 : World) hW hT hv => hJ2.put hS 10 28 rfl (by omega) (W' := W2) hW hT v hv
     clear ho hall hl hQ
     generalize InvQ _ _ _ w0 a0 (lq.setIfInBounds 10 true) = K at hK ⊢
     clear hJ2 hS z1 z2 z3 z4 z6 z7
     go_simp
     exact hK _ _ z5 (fun _ _ h => h) rfl
   | 11, ho =>
     cases ho
     have fg : aq.tmps.getD 26 undef = .bool false := z6 8 26 (hall { on := 8, ground := Ground.guard } (by simp) rfl) rfl
     refine wpOp_on rfl rfl rfl rfl fg ?_
     have hK := fun (v : Value) (W2 : World) hW hT hv => hJ2.put hS 11 29 rfl (by omega) (W' := W2) hW hT v hv
     clear ho hall hl hQ
     generalize InvQ _ _ _ w0 a0 (lq.setIfInBounds 11 true) = K at hK ⊢
     clear hJ2 hS z1 z2 z3 z4 z6 z7
     go_simp
     exact hK _ _ z5 (fun _ _ h => h) rfl
   | 12, ho =>
     cases ho
     have fg : aq.tmps.getD 26 undef = .bool false := z6 8 26 (hall { on := 8, ground := Ground.guard } (by simp) rfl) rfl
     refine wpOp_on rfl rfl rfl rfl fg ?_
     have f11 : (aq.tmps.getD 29 undef) = .pointer (some ⟨Lb, 0, none⟩) := z6 11 29 (hall { on := 11, ground := Ground.data } (by simp) rfl) rfl
     have hK := fun (v : Value) (W2 : World) hW hT hv => hJ2.put hS 12 30 rfl (by omega) (W' := W2) hW hT v hv
     clear ho hall hl hQ
     generalize InvQ _ _ _ w0 a0 (lq.setIfInBounds 12 true) = K at hK ⊢
     clear hJ2 hS z1 z2 z3 z4 z6 z7
     go_simp
     exact hK _ _ z5 (fun _ _ h => h) rfl
   | 13, ho =>
     cases ho
     have fg : aq.tmps.getD 26 undef = .bool false := z6 8 26 (hall { on := 8, ground := Ground.guard } (by simp) rfl) rfl
     refine wpOp_on rfl rfl rfl rfl fg ?_
     have f10 : (aq.tmps.getD 28 undef) = .int .i64 (bx + bs) := z6 10 28 (hall { on := 10, ground := Ground.data } (by simp) rfl) rfl
     have f12 : (aq.tmps.getD 30 undef) = .int .i64 (wa) := z6 12 30 (hall { on := 12, ground := Ground.data } (by simp) rfl) rfl
     have hK := fun (v : Value) (W2 : World) hW hT hv => hJ2.put hS 13 31 rfl (by omega) (W' := W2) hW hT v hv
     clear ho hall hl hQ
     generalize InvQ _ _ _ w0 a0 (lq.setIfInBounds 13 true) = K at hK ⊢
     clear hJ2 hS z1 z2 z3 z4 z6 z7
     go_simp
     exact hK _ _ z5 (fun _ _ h => h) rfl
   | 14, ho =>
     cases ho
     refine wpOp_of rfl rfl ?_
     have f8 : (aq.tmps.getD 26 undef) = .bool false := z6 8 26 (hall { on := 8, ground := Ground.data } (by simp) rfl) rfl
     have f13 : (aq.tmps.getD 31 undef) = .bool (decide (bx + bs < wa)) := z6 13 31 (hall { on := 13, ground := Ground.data } (by simp) rfl) rfl
     rw [d2.out] at f13
     have hK := fun (v : Value) (W2 : World) hW hT hv => hJ2.put hS 14 32 rfl (by omega) (W' := W2) hW hT v hv
     clear ho hall hl hQ
     generalize InvQ _ _ _ w0 a0 (lq.setIfInBounds 14 true) = K at hK ⊢
     clear hJ2 hS z1 z2 z3 z4 z6 z7
     go_simp
     exact hK _ _ z5 (fun _ _ h => h) rfl
   | 15, ho =>
     cases ho
     refine wpOp_of rfl rfl ?_
     have f14 : (aq.tmps.getD 32 undef) = .bool false := z6 14 32 (hall { on := 14, ground := Ground.data } (by simp) rfl) rfl
     have hK := fun (v : Value) (W2 : World) hW hT hv => hJ2.put hS 15 33 rfl (by omega) (W' := W2) hW hT v hv
     clear ho hall hl hQ
     generalize InvQ _ _ _ w0 a0 (lq.setIfInBounds 15 true) = K at hK ⊢
     clear hJ2 hS z1 z2 z3 z4 z6 z7
     go_simp
     exact hK _ _ z5 (fun _ _ h => h) rfl
   | 16, ho =>
     cases ho
     have fg : aq.tmps.getD 33 undef = .bool false := z6 15 33 (hall { on := 15, ground := Ground.guard } (by simp) rfl) rfl
     refine wpOp_on rfl rfl rfl rfl fg ?_
     have hK := fun (v : Value) (W2 : World) hW hT hv => hJ2.put hS 16 34 rfl (by omega) (W' := W2) hW hT v hv
     clear ho hall hl hQ
     generalize InvQ _ _ _ w0 a0 (lq.setIfInBounds 16 true) = K at hK ⊢
     clear hJ2 hS z1 z2 z3 z4 z6 z7
     go_simp
     exact hK _ _ z5 (fun _ _ h => h) rfl
   | 17, ho =>
     cases ho
     have fg : aq.tmps.getD 33 undef = .bool false := z6 15 33 (hall { on := 15, ground := Ground.guard } (by simp) rfl) rfl
     refine wpOp_on rfl rfl rfl rfl fg ?_
     have f16 : (aq.tmps.getD 34 undef) = .pointer (some ⟨Hb, 1, none⟩) := z6 16 34 (hall { on := 16, ground := Ground.data } (by simp) rfl) rfl
     have hK := fun (v : Value) (W2 : World) hW hT hv => hJ2.put hS 17 35 rfl (by omega) (W' := W2) hW hT v hv
     clear ho hall hl hQ
     generalize InvQ _ _ _ w0 a0 (lq.setIfInBounds 17 true) = K at hK ⊢
     clear hJ2 hS z1 z2 z3 z4 z6 z7
     go_simp
     exact hK _ _ z5 (fun _ _ h => h) rfl
   | 18, ho =>
     cases ho
     have fg : aq.tmps.getD 33 undef = .bool false := z6 15 33 (hall { on := 15, ground := Ground.guard } (by simp) rfl) rfl
     refine wpOp_on rfl rfl rfl rfl fg ?_
     have hK := fun (v : Value) (W2 : World) hW hT hv => hJ2.put hS 18 36 rfl (by omega) (W' := W2) hW hT v hv
     clear ho hall hl hQ
     generalize InvQ _ _ _ w0 a0 (lq.setIfInBounds 18 true) = K at hK ⊢
     clear hJ2 hS z1 z2 z3 z4 z6 z7
     go_simp
     exact hK _ _ z5 (fun _ _ h => h) rfl
   | 19, ho =>
     cases ho
     have fg : aq.tmps.getD 33 undef = .bool false := z6 15 33 (hall { on := 15, ground := Ground.guard } (by simp) rfl) rfl
     refine wpOp_on rfl rfl rfl rfl fg ?_
     have f18 : (aq.tmps.getD 36 undef) = .pointer (some ⟨Be, 0, none⟩) := z6 18 36 (hall { on := 18, ground := Ground.data } (by simp) rfl) rfl
     have hK := fun (v : Value) (W2 : World) hW hT hv => hJ2.put hS 19 37 rfl (by omega) (W' := W2) hW hT v hv
     clear ho hall hl hQ
     generalize InvQ _ _ _ w0 a0 (lq.setIfInBounds 19 true) = K at hK ⊢
     clear hJ2 hS z1 z2 z3 z4 z6 z7
     go_simp
     exact hK _ _ z5 (fun _ _ h => h) rfl
   | 20, ho =>
     cases ho
     have fg : aq.tmps.getD 33 undef = .bool false := z6 15 33 (hall { on := 15, ground := Ground.guard } (by simp) rfl) rfl
     refine wpOp_on rfl rfl rfl rfl fg ?_
     have f19 : (aq.tmps.getD 37 undef) = .pointer (some ⟨Be, 0, none⟩) := z6 19 37 (hall { on := 19, ground := Ground.data } (by simp) rfl) rfl
     have hK := fun (v : Value) (W2 : World) hW hT hv => hJ2.put hS 20 38 rfl (by omega) (W' := W2) hW hT v hv
     clear ho hall hl hQ
     generalize InvQ _ _ _ w0 a0 (lq.setIfInBounds 20 true) = K at hK ⊢
     clear hJ2 hS z1 z2 z3 z4 z6 z7
     go_simp
     exact hK _ _ z5 (fun _ _ h => h) rfl
   | 21, ho =>
     cases ho
     have fg : aq.tmps.getD 33 undef = .bool false := z6 15 33 (hall { on := 15, ground := Ground.guard } (by simp) rfl) rfl
     refine wpOp_on rfl rfl rfl rfl fg ?_
     have f20 : (aq.tmps.getD 38 undef) = .pointer (some ⟨Be, 0, none⟩) := z6 20 38 (hall { on := 20, ground := Ground.data } (by simp) rfl) rfl
     have hK := fun (v : Value) (W2 : World) hW hT hv => hJ2.put hS 21 39 rfl (by omega) (W' := W2) hW hT v hv
     clear ho hall hl hQ
     generalize InvQ _ _ _ w0 a0 (lq.setIfInBounds 21 true) = K at hK ⊢
     clear hJ2 hS z1 z2 z3 z4 z6 z7
     go_simp
     exact hK _ _ z5 (fun _ _ h => h) rfl
   | 22, ho =>
     cases ho
     have fg : aq.tmps.getD 33 undef = .bool false := z6 15 33 (hall { on := 15, ground := Ground.guard } (by simp) rfl) rfl
     refine wpOp_on rfl rfl rfl rfl fg ?_
     have f21 : (aq.tmps.getD 39 undef) = .pointer (some ⟨Be, 1, none⟩) := z6 21 39 (hall { on := 21, ground := Ground.data } (by simp) rfl) rfl
     have hK := fun (v : Value) (W2 : World) hW hT hv => hJ2.put hS 22 40 rfl (by omega) (W' := W2) hW hT v hv
     clear ho hall hl hQ
     generalize InvQ _ _ _ w0 a0 (lq.setIfInBounds 22 true) = K at hK ⊢
     clear hJ2 hS z1 z2 z3 z4 z6 z7
     go_simp
     exact hK _ _ z5 (fun _ _ h => h) rfl
   | 23, ho =>
     cases ho
     have fg : aq.tmps.getD 33 undef = .bool false := z6 15 33 (hall { on := 15, ground := Ground.guard } (by simp) rfl) rfl
     refine wpOp_on rfl rfl rfl rfl fg ?_
     have f17 : (aq.tmps.getD 35 undef) = .int .i64 (wd) := z6 17 35 (hall { on := 17, ground := Ground.data } (by simp) rfl) rfl
     have f22 : (aq.tmps.getD 40 undef) = .int .i64 (bY) := z6 22 40 (hall { on := 22, ground := Ground.data } (by simp) rfl) rfl
     have hK := fun (v : Value) (W2 : World) hW hT hv => hJ2.put hS 23 41 rfl (by omega) (W' := W2) hW hT v hv
     clear ho hall hl hQ
     generalize InvQ _ _ _ w0 a0 (lq.setIfInBounds 23 true) = K at hK ⊢
     clear hJ2 hS z1 z2 z3 z4 z6 z7
     go_simp
     exact hK _ _ z5 (fun _ _ h => h) rfl
   | 24, ho =>
     cases ho
     refine wpOp_of rfl rfl ?_
     have f15 : (aq.tmps.getD 33 undef) = .bool false := z6 15 33 (hall { on := 15, ground := Ground.data } (by simp) rfl) rfl
     have f23 : (aq.tmps.getD 41 undef) = .bool (decide (wd < bY)) := z6 23 41 (hall { on := 23, ground := Ground.data } (by simp) rfl) rfl
     rw [d3.out] at f23
     have hK := fun (v : Value) (W2 : World) hW hT hv => hJ2.put hS 24 42 rfl (by omega) (W' := W2) hW hT v hv
     clear ho hall hl hQ
     generalize InvQ _ _ _ w0 a0 (lq.setIfInBounds 24 true) = K at hK ⊢
     clear hJ2 hS z1 z2 z3 z4 z6 z7
     go_simp
     exact hK _ _ z5 (fun _ _ h => h) rfl
   | 25, ho =>
     cases ho
     refine wpOp_of rfl rfl ?_
     have f24 : (aq.tmps.getD 42 undef) = .bool true := z6 24 42 (hall { on := 24, ground := Ground.data } (by simp) rfl) rfl
     have hK := fun (v : Value) (W2 : World) hW hT hv => hJ2.put hS 25 43 rfl (by omega) (W' := W2) hW hT v hv
     clear ho hall hl hQ
     generalize InvQ _ _ _ w0 a0 (lq.setIfInBounds 25 true) = K at hK ⊢
     clear hJ2 hS z1 z2 z3 z4 z6 z7
     go_simp
     exact hK _ _ z5 (fun _ _ h => h) rfl
   | 26, ho =>
     cases ho
     have fg : aq.tmps.getD 43 undef = .bool true := z6 25 43 (hall { on := 25, ground := Ground.guard } (by simp) rfl) rfl
     refine wpOp_off rfl rfl rfl rfl fg ?_
     exact hJ2.put hS 26 44 rfl (by omega) z5 (fun _ _ h => h) undef rfl
   | 27, ho =>
     cases ho
     have fg : aq.tmps.getD 43 undef = .bool true := z6 25 43 (hall { on := 25, ground := Ground.guard } (by simp) rfl) rfl
     refine wpOp_off rfl rfl rfl rfl fg ?_
     exact hJ2.put hS 27 45 rfl (by omega) z5 (fun _ _ h => h) undef rfl
   | 28, ho =>
     cases ho
     have fg : aq.tmps.getD 43 undef = .bool true := z6 25 43 (hall { on := 25, ground := Ground.guard } (by simp) rfl) rfl
     refine wpOp_off rfl rfl rfl rfl fg ?_
     exact hJ2.put hS 28 46 rfl (by omega) z5 (fun _ _ h => h) undef rfl
   | 29, ho =>
     cases ho
     have fg : aq.tmps.getD 43 undef = .bool true := z6 25 43 (hall { on := 25, ground := Ground.guard } (by simp) rfl) rfl
     refine wpOp_off rfl rfl rfl rfl fg ?_
     exact hJ2.put hS 29 47 rfl (by omega) z5 (fun _ _ h => h) undef rfl
   | 30, ho =>
     cases ho
     have fg : aq.tmps.getD 43 undef = .bool true := z6 25 43 (hall { on := 25, ground := Ground.guard } (by simp) rfl) rfl
     refine wpOp_off rfl rfl rfl rfl fg ?_
     exact hJ2.put hS 30 48 rfl (by omega) z5 (fun _ _ h => h) undef rfl
   | 31, ho =>
     cases ho
     refine wpOp_of rfl rfl ?_
     have f25 : (aq.tmps.getD 43 undef) = .bool true := z6 25 43 (hall { on := 25, ground := Ground.data } (by simp) rfl) rfl
     have f30 : (aq.tmps.getD 48 undef) = undef := z6 30 48 (hall { on := 30, ground := Ground.data } (by simp) rfl) rfl
     have hK := fun (v : Value) (W2 : World) hW hT hv => hJ2.put hS 31 49 rfl (by omega) (W' := W2) hW hT v hv
     clear ho hall hl hQ
     generalize InvQ _ _ _ w0 a0 (lq.setIfInBounds 31 true) = K at hK ⊢
     clear hJ2 hS z1 z2 z3 z4 z6 z7
     go_simp
     exact hK _ _ z5 (fun _ _ h => h) rfl
   | iq + 32, ho => simp at ho
 · intro lq aq W hJ hr
   obtain ⟨z1, z2, z3, z4, z5, z6, z7⟩ := hJ
   have hl := listed_of hr [0, 1, 2, 3, 4, 5, 6, 7, 8, 9, 10, 11, 12, 13, 14, 15, 16, 17, 18, 19, 20, 21, 22, 23, 24, 25, 26, 27, 28, 29, 30, 31] [] (by simp) (by kernel_rfl) (by rw [z1]; decide)
   exact hQ aq W z2 z3 (fun e he => z4 e (by simpa using he)) (z6 31 49 (hl 31 (by simp)) rfl) z5
def VvwD (Be Lb Hb Tb : Nat) (bx bY bs wa wb wc wd : Int) (_B : Nat) : Nat → Value → World → Prop
 | 0, v, _ => v = .pointer (some ⟨Hb, 0, none⟩)
 | 1, v, _ => v = .int .i64 (wc)
 | 2, v, _ => v = .pointer (some ⟨Be, 0, none⟩)
 | 3, v, _ => v = .pointer (some ⟨Be, 0, none⟩)
 | 4, v, _ => v = .pointer (some ⟨Be, 0, none⟩)
 | 5, v, _ => v = .pointer (some ⟨Be, 0, none⟩)
 | 6, v, _ => v = .int .i64 (bx)
 | 7, v, _ => v = .bool (decide (wc < bx))
 | 8, v, _ => v = .bool false
 | 9, v, _ => v = .pointer (some ⟨Tb, 0, none⟩)
 | 10, v, _ => v = .int .i64 (bx + bs)
 | 11, v, _ => v = .pointer (some ⟨Lb, 0, none⟩)
 | 12, v, _ => v = .int .i64 (wa)
 | 13, v, _ => v = .bool (decide (bx + bs < wa))
 | 14, v, _ => v = .bool false
 | 15, v, _ => v = .bool false
 | 16, v, _ => v = .pointer (some ⟨Hb, 1, none⟩)
 | 17, v, _ => v = .int .i64 (wd)
 | 18, v, _ => v = .pointer (some ⟨Be, 0, none⟩)
 | 19, v, _ => v = .pointer (some ⟨Be, 0, none⟩)
 | 20, v, _ => v = .pointer (some ⟨Be, 0, none⟩)
 | 21, v, _ => v = .pointer (some ⟨Be, 1, none⟩)
 | 22, v, _ => v = .int .i64 (bY)
 | 23, v, _ => v = .bool (decide (wd < bY))
 | 24, v, _ => v = .bool false
 | 25, v, _ => v = .bool false
 | 26, v, _ => v = .pointer (some ⟨Tb, 1, none⟩)
 | 27, v, _ => v = .int .i64 (bY + bs)
 | 28, v, _ => v = .pointer (some ⟨Lb, 1, none⟩)
 | 29, v, _ => v = .int .i64 (wb)
 | 30, v, _ => v = .bool (decide (bY + bs < wb))
 | 31, v, _ => v = .bool (decide (bY + bs < wb))
 | _, _, _ => True
set_option maxRecDepth 100000 in
set_option maxHeartbeats 4000000 in
theorem vwD {Q : Exit → Act → World → Prop} {Be Lb Hb Tb : Nat} {bx bY bs wa wb wc wd : Int}  {w0 : World} {a0 : Act} {idq : Nat} {t0 t1 t2 t3 t4 t5 t6 t7 t8 t9 t10 t11 t12 t13 t14 t15 t16 t17 t18 t19 t20 t21 t22 t23 t24 t25 t26 t27 t28 t29 t30 t31 : TypeId} {q0 q1 q2 q3 q4 q5 q6 q7 q8 q9 q10 q11 q12 q13 q14 q15 q16 q17 q18 q19 q20 q21 q22 q23 q24 q25 q26 q27 q28 q29 q30 q31 : String}
   (d1 : Hid (decide (wc < bx) = false)) (d2 : Hid (decide (bx + bs < wa) = false)) (d3 : Hid (decide (wd < bY) = false)) (h1 : a0.tmps[1]? = some (.pointer (some ⟨Be, 0, none⟩))) (h7 : a0.tmps[7]? = some (.pointer (some ⟨Lb, 0, none⟩))) (h8 : a0.tmps[8]? = some (.pointer (some ⟨Hb, 0, none⟩))) (h11 : a0.tmps[11]? = some (.pointer (some ⟨Tb, 0, none⟩))) (k0 : w0.cell? ⟨Hb, 0, none⟩ = some (.int .i64 wc)) (l0 : (⟨Hb, 0, none⟩ : Addr).block < w0.heap.size) (k1 : w0.cell? ⟨Hb, 1, none⟩ = some (.int .i64 wd)) (l1 : (⟨Hb, 1, none⟩ : Addr).block < w0.heap.size) (k2 : w0.cell? ⟨Lb, 0, none⟩ = some (.int .i64 wa)) (l2 : (⟨Lb, 0, none⟩ : Addr).block < w0.heap.size) (k3 : w0.cell? ⟨Lb, 1, none⟩ = some (.int .i64 wb)) (l3 : (⟨Lb, 1, none⟩ : Addr).block < w0.heap.size) (k4 : w0.cell? ⟨Tb, 0, none⟩ = some (.int .i64 (bx + bs))) (l4 : (⟨Tb, 0, none⟩ : Addr).block < w0.heap.size) (k5 : w0.cell? ⟨Tb, 1, none⟩ = some (.int .i64 (bY + bs))) (l5 : (⟨Tb, 1, none⟩ : Addr).block < w0.heap.size) (k6 : w0.cell? ⟨Be, 0, none⟩ = some (.int .i64 bx)) (l6 : (⟨Be, 0, none⟩ : Addr).block < w0.heap.size) (k7 : w0.cell? ⟨Be, 1, none⟩ = some (.int .i64 bY)) (l7 : (⟨Be, 1, none⟩ : Addr).block < w0.heap.size) (hz : a0.tmps.size = 87)
   (hQ : ∀ aq W, aq.tmps.size = a0.tmps.size → aq.defers = a0.defers → (∀ e, e ∉ ([18, 19, 20, 21, 22, 23, 24, 25, 26, 27, 28, 29, 30, 31, 32, 33, 34, 35, 36, 37, 38, 39, 40, 41, 42, 43, 44, 45, 46, 47, 48, 49] : List Nat) → aq.tmps[e]? = a0.tmps[e]?) → VvwD Be Lb Hb Tb bx bY bs wa wb wc wd w0.heap.size 31 (aq.tmps.getD 49 undef) W → Below w0.heap.size w0 W → Q .normal aq W) :
   (Code.region idq #[{ dst := some 18, op := Op.fieldAddr 37 (Operand.tmp 8) 0, type := t0, pos := q0, after := #[], guard := none },
   { dst := some 19, op := Op.load 2 (Operand.tmp 18), type := t1, pos := q1, after := #[{ on := 0, ground := Ground.data }], guard := none },
   { dst := some 20, op := Op.move (Operand.tmp 1), type := t2, pos := q2, after := #[], guard := none },
   { dst := some 21, op := Op.nilCheck (Operand.tmp 20), type := t3, pos := q3, after := #[{ on := 2, ground := Ground.data }], guard := none },
   { dst := some 22, op := Op.fieldAddr 99 (Operand.tmp 21) 0, type := t4, pos := q4, after := #[{ on := 3, ground := Ground.data }], guard := none },
   { dst := some 23, op := Op.fieldAddr 37 (Operand.tmp 22) 0, type := t5, pos := q5, after := #[{ on := 4, ground := Ground.data }], guard := none },
   { dst := some 24, op := Op.load 2 (Operand.tmp 23), type := t6, pos := q6, after := #[{ on := 5, ground := Ground.data }], guard := none },
   { dst := some 25, op := Op.binOp BinOp.lss 2 (Operand.tmp 19) (Operand.tmp 24) 2, type := t7, pos := q7, after := #[{ on := 1, ground := Ground.data }, { on := 6, ground := Ground.data }], guard := none },
   { dst := some 26, op := Op.move (Operand.tmp 25), type := t8, pos := q8, after := #[{ on := 7, ground := Ground.data }], guard := none },
   { dst := some 27, op := Op.fieldAddr 37 (Operand.tmp 11) 0, type := t9, pos := q9, after := #[{ on := 8, ground := Ground.guard }], guard := some (8, false) },
   { dst := some 28, op := Op.load 2 (Operand.tmp 27), type := t10, pos := q10, after := #[{ on := 9, ground := Ground.data }, { on := 8, ground := Ground.guard }], guard := some (8, false) },
   { dst := some 29, op := Op.fieldAddr 37 (Operand.tmp 7) 0, type := t11, pos := q11, after := #[{ on := 8, ground := Ground.guard }], guard := some (8, false) },
   { dst := some 30, op := Op.load 2 (Operand.tmp 29), type := t12, pos := q12, after := #[{ on := 11, ground := Ground.data }, { on := 8, ground := Ground.guard }], guard := some (8, false) },
   { dst := some 31, op := Op.binOp BinOp.lss 2 (Operand.tmp 28) (Operand.tmp 30) 2, type := t13, pos := q13, after := #[{ on := 10, ground := Ground.data }, { on := 12, ground := Ground.data }, { on := 8, ground := Ground.guard }], guard := some (8, false) },
   { dst := some 32, op := Op.pick (Operand.tmp 26) (Operand.const (Value.bool true)) (Operand.tmp 31), type := t14, pos := q14, after := #[{ on := 8, ground := Ground.data }, { on := 13, ground := Ground.data }], guard := none },
   { dst := some 33, op := Op.move (Operand.tmp 32), type := t15, pos := q15, after := #[{ on := 14, ground := Ground.data }, { on := 8, ground := Ground.chain }], guard := none },
   { dst := some 34, op := Op.fieldAddr 37 (Operand.tmp 8) 1, type := t16, pos := q16, after := #[{ on := 15, ground := Ground.guard }], guard := some (15, false) },
   { dst := some 35, op := Op.load 2 (Operand.tmp 34), type := t17, pos := q17, after := #[{ on := 16, ground := Ground.data }, { on := 15, ground := Ground.guard }], guard := some (15, false) },
   { dst := some 36, op := Op.move (Operand.tmp 1), type := t18, pos := q18, after := #[{ on := 15, ground := Ground.guard }], guard := some (15, false) },
   { dst := some 37, op := Op.nilCheck (Operand.tmp 36), type := t19, pos := q19, after := #[{ on := 18, ground := Ground.data }, { on := 15, ground := Ground.guard }], guard := some (15, false) },
   { dst := some 38, op := Op.fieldAddr 99 (Operand.tmp 37) 0, type := t20, pos := q20, after := #[{ on := 19, ground := Ground.data }, { on := 15, ground := Ground.guard }], guard := some (15, false) },
   { dst := some 39, op := Op.fieldAddr 37 (Operand.tmp 38) 1, type := t21, pos := q21, after := #[{ on := 20, ground := Ground.data }, { on := 15, ground := Ground.guard }], guard := some (15, false) },
   { dst := some 40, op := Op.load 2 (Operand.tmp 39), type := t22, pos := q22, after := #[{ on := 21, ground := Ground.data }, { on := 15, ground := Ground.guard }], guard := some (15, false) },
   { dst := some 41, op := Op.binOp BinOp.lss 2 (Operand.tmp 35) (Operand.tmp 40) 2, type := t23, pos := q23, after := #[{ on := 17, ground := Ground.data }, { on := 22, ground := Ground.data }, { on := 15, ground := Ground.guard }], guard := some (15, false) },
   { dst := some 42, op := Op.pick (Operand.tmp 33) (Operand.const (Value.bool true)) (Operand.tmp 41), type := t24, pos := q24, after := #[{ on := 15, ground := Ground.data }, { on := 23, ground := Ground.data }], guard := none },
   { dst := some 43, op := Op.move (Operand.tmp 42), type := t25, pos := q25, after := #[{ on := 24, ground := Ground.data }, { on := 15, ground := Ground.chain }], guard := none },
   { dst := some 44, op := Op.fieldAddr 37 (Operand.tmp 11) 1, type := t26, pos := q26, after := #[{ on := 25, ground := Ground.guard }], guard := some (25, false) },
   { dst := some 45, op := Op.load 2 (Operand.tmp 44), type := t27, pos := q27, after := #[{ on := 26, ground := Ground.data }, { on := 25, ground := Ground.guard }], guard := some (25, false) },
   { dst := some 46, op := Op.fieldAddr 37 (Operand.tmp 7) 1, type := t28, pos := q28, after := #[{ on := 25, ground := Ground.guard }], guard := some (25, false) },
   { dst := some 47, op := Op.load 2 (Operand.tmp 46), type := t29, pos := q29, after := #[{ on := 28, ground := Ground.data }, { on := 25, ground := Ground.guard }], guard := some (25, false) },
   { dst := some 48, op := Op.binOp BinOp.lss 2 (Operand.tmp 45) (Operand.tmp 47) 2, type := t30, pos := q30, after := #[{ on := 27, ground := Ground.data }, { on := 29, ground := Ground.data }, { on := 25, ground := Ground.guard }], guard := some (25, false) },
   { dst := some 49, op := Op.pick (Operand.tmp 43) (Operand.const (Value.bool true)) (Operand.tmp 48), type := t31, pos := q31, after := #[{ on := 25, ground := Ground.data }, { on := 30, ground := Ground.data }], guard := none }] true).wp Try.prog Q a0 w0 := by
 have hS : distS [some 18, some 19, some 20, some 21, some 22, some 23, some 24, some 25, some 26, some 27, some 28, some 29, some 30, some 31, some 32, some 33, some 34, some 35, some 36, some 37, some 38, some 39, some 40, some 41, some 42, some 43, some 44, some 45, some 46, some 47, some 48, some 49] = true := rfl
 refine wp_region_q (by kernel_rfl) w0.heap.size [some 18, some 19, some 20, some 21, some 22, some 23, some 24, some 25, some 26, some 27, some 28, some 29, some 30, some 31, some 32, some 33, some 34, some 35, some 36, some 37, some 38, some 39, some 40, some 41, some 42, some 43, some 44, some 45, some 46, some 47, some 48, some 49] (VvwD Be Lb Hb Tb bx bY bs wa wb wc wd w0.heap.size) rfl ?_ ?_
 · intro Q lq aq W iq oq hJ hl ho hall
   have hJ2 := hJ
   obtain ⟨z1, z2, z3, z4, z5, z6, z7⟩ := hJ
   have g1 : aq.tmps.getD 1 undef = .pointer (some ⟨Be, 0, none⟩) := by rw [Array.getD_eq_getD_getElem?, z4 1 (by decide), h1]; rfl
   have g7 : aq.tmps.getD 7 undef = .pointer (some ⟨Lb, 0, none⟩) := by rw [Array.getD_eq_getD_getElem?, z4 7 (by decide), h7]; rfl
   have g8 : aq.tmps.getD 8 undef = .pointer (some ⟨Hb, 0, none⟩) := by rw [Array.getD_eq_getD_getElem?, z4 8 (by decide), h8]; rfl
   have g11 : aq.tmps.getD 11 undef = .pointer (some ⟨Tb, 0, none⟩) := by rw [Array.getD_eq_getD_getElem?, z4 11 (by decide), h11]; rfl
   have c0 : W.cell? ⟨Hb, 0, none⟩ = some (.int .i64 wc) := (z5.cell l0).trans k0
   have c1 : W.cell? ⟨Hb, 1, none⟩ = some (.int .i64 wd) := (z5.cell l1).trans k1
   have c2 : W.cell? ⟨Lb, 0, none⟩ = some (.int .i64 wa) := (z5.cell l2).trans k2
   have c3 : W.cell? ⟨Lb, 1, none⟩ = some (.int .i64 wb) := (z5.cell l3).trans k3
   have c4 : W.cell? ⟨Tb, 0, none⟩ = some (.int .i64 (bx + bs)) := (z5.cell l4).trans k4
   have c5 : W.cell? ⟨Tb, 1, none⟩ = some (.int .i64 (bY + bs)) := (z5.cell l5).trans k5
   have c6 : W.cell? ⟨Be, 0, none⟩ = some (.int .i64 bx) := (z5.cell l6).trans k6
   have c7 : W.cell? ⟨Be, 1, none⟩ = some (.int .i64 bY) := (z5.cell l7).trans k7
   match iq, ho with
   | 0, ho =>
     cases ho
     refine wpOp_of rfl rfl ?_
     have hK := fun (v : Value) (W2 : World) hW hT hv => hJ2.put hS 0 18 rfl (by omega) (W' := W2) hW hT v hv
     clear ho hall hl hQ
     generalize InvQ _ _ _ w0 a0 (lq.setIfInBounds 0 true) = K at hK ⊢
     clear hJ2 hS z1 z2 z3 z4 z6 z7
     go_simp
     exact hK _ _ z5 (fun _ _ h => h) rfl
   | 1, ho =>
     cases ho
     refine wpOp_of rfl rfl ?_
     have f0 : (aq.tmps.getD 18 undef) = .pointer (some ⟨Hb, 0, none⟩) := z6 0 18 (hall { on := 0, ground := Ground.data } (by simp) rfl) rfl
     have hK := fun (v : Value) (W2 : World) hW hT hv => hJ2.put hS 1 19 rfl (by omega) (W' := W2) hW hT v hv
     clear ho hall hl hQ
     generalize InvQ _ _ _ w0 a0 (lq.setIfInBounds 1 true) = K at hK ⊢
     clear hJ2 hS z1 z2 z3 z4 z6 z7
     go_simp
     exact hK _ _ z5 (fun _ _ h => h) rfl
   | 2, ho =>
     cases ho
     refine wpOp_of rfl rfl ?_
     have hK := fun (v : Value) (W2 : World) hW hT hv => hJ2.put hS 2 20 rfl (by omega) (W' := W2) hW hT v hv
     clear ho hall hl hQ
     generalize InvQ _ _ _ w0 a0 (lq.setIfInBounds 2 true) = K at hK ⊢
     clear hJ2 hS z1 z2 z3 z4 z6 z7
     go_simp
     exact hK _ _ z5 (fun _ _ h => h) rfl
   | 3, ho =>
     cases ho
     refine wpOp_of rfl rfl ?_
     have f2 : (aq.tmps.getD 20 undef) = .pointer (some ⟨Be, 0, none⟩) := z6 2 20 (hall { on := 2, ground := Ground.data } (by simp) rfl) rfl
     have hK := fun (v : Value) (W2 : World) hW hT hv => hJ2.put hS 3 21 rfl (by omega) (W' := W2) hW hT v hv
     clear ho hall hl hQ
     generalize InvQ _ _ _ w0 a0 (lq.setIfInBounds 3 true) = K at hK ⊢
     clear hJ2 hS z1 z2 z3 z4 z6 z7
     go_simp
     exact hK _ _ z5 (fun _ _ h => h) rfl
   | 4, ho =>
     cases ho
     refine wpOp_of rfl rfl ?_
     have f3 : (aq.tmps.getD 21 undef) = .pointer (some ⟨Be, 0, none⟩) := z6 3 21 (hall { on := 3, ground := Ground.data } (by simp) rfl) rfl
     have hK := fun (v : Value) (W2 : World) hW hT hv => hJ2.put hS 4 22 rfl (by omega) (W' := W2) hW hT v hv
     clear ho hall hl hQ
     generalize InvQ _ _ _ w0 a0 (lq.setIfInBounds 4 true) = K at hK ⊢
     clear hJ2 hS z1 z2 z3 z4 z6 z7
     go_simp
     exact hK _ _ z5 (fun _ _ h => h) rfl
   | 5, ho =>
     cases ho
     refine wpOp_of rfl rfl ?_
     have f4 : (aq.tmps.getD 22 undef) = .pointer (some ⟨Be, 0, none⟩) := z6 4 22 (hall { on := 4, ground := Ground.data } (by simp) rfl) rfl
     have hK := fun (v : Value) (W2 : World) hW hT hv => hJ2.put hS 5 23 rfl (by omega) (W' := W2) hW hT v hv
     clear ho hall hl hQ
     generalize InvQ _ _ _ w0 a0 (lq.setIfInBounds 5 true) = K at hK ⊢
     clear hJ2 hS z1 z2 z3 z4 z6 z7
     go_simp
     exact hK _ _ z5 (fun _ _ h => h) rfl
   | 6, ho =>
     cases ho
     refine wpOp_of rfl rfl ?_
     have f5 : (aq.tmps.getD 23 undef) = .pointer (some ⟨Be, 0, none⟩) := z6 5 23 (hall { on := 5, ground := Ground.data } (by simp) rfl) rfl
     have hK := fun (v : Value) (W2 : World) hW hT hv => hJ2.put hS 6 24 rfl (by omega) (W' := W2) hW hT v hv
     clear ho hall hl hQ
     generalize InvQ _ _ _ w0 a0 (lq.setIfInBounds 6 true) = K at hK ⊢
     clear hJ2 hS z1 z2 z3 z4 z6 z7
     go_simp
     exact hK _ _ z5 (fun _ _ h => h) rfl
   | 7, ho =>
     cases ho
     refine wpOp_of rfl rfl ?_
     have f1 : (aq.tmps.getD 19 undef) = .int .i64 (wc) := z6 1 19 (hall { on := 1, ground := Ground.data } (by simp) rfl) rfl
     have f6 : (aq.tmps.getD 24 undef) = .int .i64 (bx) := z6 6 24 (hall { on := 6, ground := Ground.data } (by simp) rfl) rfl
     have hK := fun (v : Value) (W2 : World) hW hT hv => hJ2.put hS 7 25 rfl (by omega) (W' := W2) hW hT v hv
     clear ho hall hl hQ
     generalize InvQ _ _ _ w0 a0 (lq.setIfInBounds 7 true) = K at hK ⊢
     clear hJ2 hS z1 z2 z3 z4 z6 z7
     go_simp
     exact hK _ _ z5 (fun _ _ h => h) rfl
   | 8, ho =>
     cases ho
     refine wpOp_of rfl rfl ?_
     have f7 : (aq.tmps.getD 25 undef) = .bool (decide (wc < bx)) := z6 7 25 (hall { on := 7, ground := Ground.data } (by simp) rfl) rfl
     rw [d1.out] at f7
     have hK := fun (v : Value) (W2 : World) hW hT hv => hJ2.put hS 8 26 rfl (by omega) (W' := W2) hW hT v hv
     clear ho hall hl hQ
     generalize InvQ _ _ _ w0 a0 (lq.setIfInBounds 8 true) = K at hK ⊢
     clear hJ2 hS z1 z2 z3 z4 z6 z7
     go_simp
     exact hK _ _ z5 (fun _ _ h => h) rfl
   | 9, ho =>
     cases ho
     have fg : aq.tmps.getD 26 undef = .bool false := z6 8 26 (hall { on := 8, ground := Ground.guard } (by simp) rfl) rfl
     refine wpOp_on rfl rfl rfl rfl fg ?_
     have hK := fun (v : Value) (W2 : World) hW hT hv => hJ2.put hS 9 27 rfl (by omega) (W' := W2) hW hT v hv
     clear ho hall hl hQ
     generalize InvQ _ _ _ w0 a0 (lq.setIfInBounds 9 true) = K at hK ⊢
     clear hJ2 hS z1 z2 z3 z4 z6 z7
     go_simp
     exact hK _ _ z5 (fun _ _ h => h) rfl
   | 10, ho =>
     cases ho
     have fg : aq.tmps.getD 26 undef = .bool false := z6 8 26 (hall { on := 8, ground := Ground.guard } (by simp) rfl) rfl
     refine wpOp_on rfl rfl rfl rfl fg ?_
     have f9 : (aq.tmps.getD 27 undef) = .pointer (some ⟨Tb, 0, none⟩) := z6 9 27 (hall { on := 9, ground := Ground.data } (by simp) rfl) rfl
     have hK := fun (v : Value) (W2 : World) hW hT hv => hJ2.put hS 10 28 rfl (by omega) (W' := W2) hW hT v hv
     clear ho hall hl hQ
     generalize InvQ _ _ _ w0 a0 (lq.setIfInBounds 10 true) = K at hK ⊢
     clear hJ2 hS z1 z2 z3 z4 z6 z7
     go_simp
     exact hK _ _ z5 (fun _ _ h => h) rfl
   | 11, ho =>
     cases ho
     have fg : aq.tmps.getD 26 undef = .bool false := z6 8 26 (hall { on := 8, ground := Ground.guard } (by simp) rfl) rfl
     refine wpOp_on rfl rfl rfl rfl fg ?_
     have hK := fun (v : Value) (W2 : World) hW hT hv => hJ2.put hS 11 29 rfl (by omega) (W' := W2) hW hT v hv
     clear ho hall hl hQ
     generalize InvQ _ _ _ w0 a0 (lq.setIfInBounds 11 true) = K at hK ⊢
     clear hJ2 hS z1 z2 z3 z4 z6 z7
     go_simp
     exact hK _ _ z5 (fun _ _ h => h) rfl
   | 12, ho =>
     cases ho
     have fg : aq.tmps.getD 26 undef = .bool false := z6 8 26 (hall { on := 8, ground := Ground.guard } (by simp) rfl) rfl
     refine wpOp_on rfl rfl rfl rfl fg ?_
     have f11 : (aq.tmps.getD 29 undef) = .pointer (some ⟨Lb, 0, none⟩) := z6 11 29 (hall { on := 11, ground := Ground.data } (by simp) rfl) rfl
     have hK := fun (v : Value) (W2 : World) hW hT hv => hJ2.put hS 12 30 rfl (by omega) (W' := W2) hW hT v hv
     clear ho hall hl hQ
     generalize InvQ _ _ _ w0 a0 (lq.setIfInBounds 12 true) = K at hK ⊢
     clear hJ2 hS z1 z2 z3 z4 z6 z7
     go_simp
     exact hK _ _ z5 (fun _ _ h => h) rfl
   | 13, ho =>
     cases ho
     have fg : aq.tmps.getD 26 undef = .bool false := z6 8 26 (hall { on := 8, ground := Ground.guard } (by simp) rfl) rfl
     refine wpOp_on rfl rfl rfl rfl fg ?_
     have f10 : (aq.tmps.getD 28 undef) = .int .i64 (bx + bs) := z6 10 28 (hall { on := 10, ground := Ground.data } (by simp) rfl) rfl
     have f12 : (aq.tmps.getD 30 undef) = .int .i64 (wa) := z6 12 30 (hall { on := 12, ground := Ground.data } (by simp) rfl) rfl
     have hK := fun (v : Value) (W2 : World) hW hT hv => hJ2.put hS 13 31 rfl (by omega) (W' := W2) hW hT v hv
     clear ho hall hl hQ
     generalize InvQ _ _ _ w0 a0 (lq.setIfInBounds 13 true) = K at hK ⊢
     clear hJ2 hS z1 z2 z3 z4 z6 z7
     go_simp
     exact hK _ _ z5 (fun _ _ h => h) rfl
   | 14, ho =>
     cases ho
     refine wpOp_of rfl rfl ?_
     have f8 : (aq.tmps.getD 26 undef) = .bool false := z6 8 26 (hall { on := 8, ground := Ground.data } (by simp) rfl) rfl
     have f13 : (aq.tmps.getD 31 undef) = .bool (decide (bx + bs < wa)) := z6 13 31 (hall { on := 13, ground := Ground.data } (by simp) rfl) rfl
     rw [d2.out] at f13
     have hK := fun (v : Value) (W2 : World) hW hT hv => hJ2.put hS 14 32 rfl (by omega) (W' := W2) hW hT v hv
     clear ho hall hl hQ
     generalize InvQ _ _ _ w0 a0 (lq.setIfInBounds 14 true) = K at hK ⊢
     clear hJ2 hS z1 z2 z3 z4 z6 z7
     go_simp
     exact hK _ _ z5 (fun _ _ h => h) rfl
   | 15, ho =>
     cases ho
     refine wpOp_of rfl rfl ?_
     have f14 : (aq.tmps.getD 32 undef) = .bool false := z6 14 32 (hall { on := 14, ground := Ground.data } (by simp) rfl) rfl
     have hK := fun (v : Value) (W2 : World) hW hT hv => hJ2.put hS 15 33 rfl (by omega) (W' := W2) hW hT v hv
     clear ho hall hl hQ
     generalize InvQ _ _ _ w0 a0 (lq.setIfInBounds 15 true) = K at hK ⊢
     clear hJ2 hS z1 z2 z3 z4 z6 z7
     go_simp
     exact hK _ _ z5 (fun _ _ h => h) rfl
   | 16, ho =>
     cases ho
     have fg : aq.tmps.getD 33 undef = .bool false := z6 15 33 (hall { on := 15, ground := Ground.guard } (by simp) rfl) rfl
     refine wpOp_on rfl rfl rfl rfl fg ?_
     have hK := fun (v : Value) (W2 : World) hW hT hv => hJ2.put hS 16 34 rfl (by omega) (W' := W2) hW hT v hv
     clear ho hall hl hQ
     generalize InvQ _ _ _ w0 a0 (lq.setIfInBounds 16 true) = K at hK ⊢
     clear hJ2 hS z1 z2 z3 z4 z6 z7
     go_simp
     exact hK _ _ z5 (fun _ _ h => h) rfl
   | 17, ho =>
     cases ho
     have fg : aq.tmps.getD 33 undef = .bool false := z6 15 33 (hall { on := 15, ground := Ground.guard } (by simp) rfl) rfl
     refine wpOp_on rfl rfl rfl rfl fg ?_
     have f16 : (aq.tmps.getD 34 undef) = .pointer (some ⟨Hb, 1, none⟩) := z6 16 34 (hall { on := 16, ground := Ground.data } (by simp) rfl) rfl
     have hK := fun (v : Value) (W2 : World) hW hT hv => hJ2.put hS 17 35 rfl (by omega) (W' := W2) hW hT v hv
     clear ho hall hl hQ
     generalize InvQ _ _ _ w0 a0 (lq.setIfInBounds 17 true) = K at hK ⊢
     clear hJ2 hS z1 z2 z3 z4 z6 z7
     go_simp
     exact hK _ _ z5 (fun _ _ h => h) rfl
   | 18, ho =>
     cases ho
     have fg : aq.tmps.getD 33 undef = .bool false := z6 15 33 (hall { on := 15, ground := Ground.guard } (by simp) rfl) rfl
     refine wpOp_on rfl rfl rfl rfl fg ?_
     have hK := fun (v : Value) (W2 : World) hW hT hv => hJ2.put hS 18 36 rfl (by omega) (W' := W2) hW hT v hv
     clear ho hall hl hQ
     generalize InvQ _ _ _ w0 a0 (lq.setIfInBounds 18 true) = K at hK ⊢
     clear hJ2 hS z1 z2 z3 z4 z6 z7
     go_simp
     exact hK _ _ z5 (fun _ _ h => h) rfl
   | 19, ho =>
     cases ho
     have fg : aq.tmps.getD 33 undef = .bool false := z6 15 33 (hall { on := 15, ground := Ground.guard } (by simp) rfl) rfl
     refine wpOp_on rfl rfl rfl rfl fg ?_
     have f18 : (aq.tmps.getD 36 undef) = .pointer (some ⟨Be, 0, none⟩) := z6 18 36 (hall { on := 18, ground := Ground.data } (by simp) rfl) rfl
     have hK := fun (v : Value) (W2 : World) hW hT hv => hJ2.put hS 19 37 rfl (by omega) (W' := W2) hW hT v hv
     clear ho hall hl hQ
     generalize InvQ _ _ _ w0 a0 (lq.setIfInBounds 19 true) = K at hK ⊢
     clear hJ2 hS z1 z2 z3 z4 z6 z7
     go_simp
     exact hK _ _ z5 (fun _ _ h => h) rfl
   | 20, ho =>
     cases ho
     have fg : aq.tmps.getD 33 undef = .bool false := z6 15 33 (hall { on := 15, ground := Ground.guard } (by simp) rfl) rfl
     refine wpOp_on rfl rfl rfl rfl fg ?_
     have f19 : (aq.tmps.getD 37 undef) = .pointer (some ⟨Be, 0, none⟩) := z6 19 37 (hall { on := 19, ground := Ground.data } (by simp) rfl) rfl
     have hK := fun (v : Value) (W2 : World) hW hT hv => hJ2.put hS 20 38 rfl (by omega) (W' := W2) hW hT v hv
     clear ho hall hl hQ
     generalize InvQ _ _ _ w0 a0 (lq.setIfInBounds 20 true) = K at hK ⊢
     clear hJ2 hS z1 z2 z3 z4 z6 z7
     go_simp
     exact hK _ _ z5 (fun _ _ h => h) rfl
   | 21, ho =>
     cases ho
     have fg : aq.tmps.getD 33 undef = .bool false := z6 15 33 (hall { on := 15, ground := Ground.guard } (by simp) rfl) rfl
     refine wpOp_on rfl rfl rfl rfl fg ?_
     have f20 : (aq.tmps.getD 38 undef) = .pointer (some ⟨Be, 0, none⟩) := z6 20 38 (hall { on := 20, ground := Ground.data } (by simp) rfl) rfl
     have hK := fun (v : Value) (W2 : World) hW hT hv => hJ2.put hS 21 39 rfl (by omega) (W' := W2) hW hT v hv
     clear ho hall hl hQ
     generalize InvQ _ _ _ w0 a0 (lq.setIfInBounds 21 true) = K at hK ⊢
     clear hJ2 hS z1 z2 z3 z4 z6 z7
     go_simp
     exact hK _ _ z5 (fun _ _ h => h) rfl
   | 22, ho =>
     cases ho
     have fg : aq.tmps.getD 33 undef = .bool false := z6 15 33 (hall { on := 15, ground := Ground.guard } (by simp) rfl) rfl
     refine wpOp_on rfl rfl rfl rfl fg ?_
     have f21 : (aq.tmps.getD 39 undef) = .pointer (some ⟨Be, 1, none⟩) := z6 21 39 (hall { on := 21, ground := Ground.data } (by simp) rfl) rfl
     have hK := fun (v : Value) (W2 : World) hW hT hv => hJ2.put hS 22 40 rfl (by omega) (W' := W2) hW hT v hv
     clear ho hall hl hQ
     generalize InvQ _ _ _ w0 a0 (lq.setIfInBounds 22 true) = K at hK ⊢
     clear hJ2 hS z1 z2 z3 z4 z6 z7
     go_simp
     exact hK _ _ z5 (fun _ _ h => h) rfl
   | 23, ho =>
     cases ho
     have fg : aq.tmps.getD 33 undef = .bool false := z6 15 33 (hall { on := 15, ground := Ground.guard } (by simp) rfl) rfl
     refine wpOp_on rfl rfl rfl rfl fg ?_
     have f17 : (aq.tmps.getD 35 undef) = .int .i64 (wd) := z6 17 35 (hall { on := 17, ground := Ground.data } (by simp) rfl) rfl
     have f22 : (aq.tmps.getD 40 undef) = .int .i64 (bY) := z6 22 40 (hall { on := 22, ground := Ground.data } (by simp) rfl) rfl
     have hK := fun (v : Value) (W2 : World) hW hT hv => hJ2.put hS 23 41 rfl (by omega) (W' := W2) hW hT v hv
     clear ho hall hl hQ
     generalize InvQ _ _ _ w0 a0 (lq.setIfInBounds 23 true) = K at hK ⊢
     clear hJ2 hS z1 z2 z3 z4 z6 z7
     go_simp
     exact hK _ _ z5 (fun _ _ h => h) rfl
   | 24, ho =>
     cases ho
     refine wpOp_of rfl rfl ?_
     have f15 : (aq.tmps.getD 33 undef) = .bool false := z6 15 33 (hall { on := 15, ground := Ground.data } (by simp) rfl) rfl
     have f23 : (aq.tmps.getD 41 undef) = .bool (decide (wd < bY)) := z6 23 41 (hall { on := 23, ground := Ground.data } (by simp) rfl) rfl
     rw [d3.out] at f23
     have hK := fun (v : Value) (W2 : World) hW hT hv => hJ2.put hS 24 42 rfl (by omega) (W' := W2) hW hT v hv
     clear ho hall hl hQ
     generalize InvQ _ _ _ w0 a0 (lq.setIfInBounds 24 true) = K at hK ⊢
     clear hJ2 hS z1 z2 z3 z4 z6 z7
     go_simp
     exact hK _ _ z5 (fun _ _ h => h) rfl
   | 25, ho =>
     cases ho
     refine wpOp_of rfl rfl ?_
     have f24 : (aq.tmps.getD 42 undef) = .bool false := z6 24 42 (hall { on := 24, ground := Ground.data } (by simp) rfl) rfl
     have hK := fun (v : Value) (W2 : World) hW hT hv => hJ2.put hS 25 43 rfl (by omega) (W' := W2) hW hT v hv
     clear ho hall hl hQ
     generalize InvQ _ _ _ w0 a0 (lq.setIfInBounds 25 true) = K at hK ⊢
     clear hJ2 hS z1 z2 z3 z4 z6 z7
     go_simp
     exact hK _ _ z5 (fun _ _ h => h) rfl
   | 26, ho =>
     cases ho
     have fg : aq.tmps.getD 43 undef = .bool false := z6 25 43 (hall { on := 25, ground := Ground.guard } (by simp) rfl) rfl
     refine wpOp_on rfl rfl rfl rfl fg ?_
     have hK := fun (v : Value) (W2 : World) hW hT hv => hJ2.put hS 26 44 rfl (by omega) (W' := W2) hW hT v hv
     clear ho hall hl hQ
     generalize InvQ _ _ _ w0 a0 (lq.setIfInBounds 26 true) = K at hK ⊢
     clear hJ2 hS z1 z2 z3 z4 z6 z7
     go_simp
     exact hK _ _ z5 (fun _ _ h => h) rfl
   | 27, ho =>
     cases ho
     have fg : aq.tmps.getD 43 undef = .bool false := z6 25 43 (hall { on := 25, ground := Ground.guard } (by simp) rfl) rfl
     refine wpOp_on rfl rfl rfl rfl fg ?_
     have f26 : (aq.tmps.getD 44 undef) = .pointer (some ⟨Tb, 1, none⟩) := z6 26 44 (hall { on := 26, ground := Ground.data } (by simp) rfl) rfl
     have hK := fun (v : Value) (W2 : World) hW hT hv => hJ2.put hS 27 45 rfl (by omega) (W' := W2) hW hT v hv
     clear ho hall hl hQ
     generalize InvQ _ _ _ w0 a0 (lq.setIfInBounds 27 true) = K at hK ⊢
     clear hJ2 hS z1 z2 z3 z4 z6 z7
     go_simp
     exact hK _ _ z5 (fun _ _ h => h) rfl
   | 28, ho =>
     cases ho
     have fg : aq.tmps.getD 43 undef = .bool false := z6 25 43 (hall { on := 25, ground := Ground.guard } (by simp) rfl) rfl
     refine wpOp_on rfl rfl rfl rfl fg ?_
     have hK := fun (v : Value) (W2 : World) hW hT hv => hJ2.put hS 28 46 rfl (by omega) (W' := W2) hW hT v hv
     clear ho hall hl hQ
     generalize InvQ _ _ _ w0 a0 (lq.setIfInBounds 28 true) = K at hK ⊢
     clear hJ2 hS z1 z2 z3 z4 z6 z7
     go_simp
     exact hK _ _ z5 (fun _ _ h => h) rfl
   | 29, ho =>
     cases ho
     have fg : aq.tmps.getD 43 undef = .bool false := z6 25 43 (hall { on := 25, ground := Ground.guard } (by simp) rfl) rfl
     refine wpOp_on rfl rfl rfl rfl fg ?_
     have f28 : (aq.tmps.getD 46 undef) = .pointer (some ⟨Lb, 1, none⟩) := z6 28 46 (hall { on := 28, ground := Ground.data } (by simp) rfl) rfl
     have hK := fun (v : Value) (W2 : World) hW hT hv => hJ2.put hS 29 47 rfl (by omega) (W' := W2) hW hT v hv
     clear ho hall hl hQ
     generalize InvQ _ _ _ w0 a0 (lq.setIfInBounds 29 true) = K at hK ⊢
     clear hJ2 hS z1 z2 z3 z4 z6 z7
     go_simp
     exact hK _ _ z5 (fun _ _ h => h) rfl
   | 30, ho =>
     cases ho
     have fg : aq.tmps.getD 43 undef = .bool false := z6 25 43 (hall { on := 25, ground := Ground.guard } (by simp) rfl) rfl
     refine wpOp_on rfl rfl rfl rfl fg ?_
     have f27 : (aq.tmps.getD 45 undef) = .int .i64 (bY + bs) := z6 27 45 (hall { on := 27, ground := Ground.data } (by simp) rfl) rfl
     have f29 : (aq.tmps.getD 47 undef) = .int .i64 (wb) := z6 29 47 (hall { on := 29, ground := Ground.data } (by simp) rfl) rfl
     have hK := fun (v : Value) (W2 : World) hW hT hv => hJ2.put hS 30 48 rfl (by omega) (W' := W2) hW hT v hv
     clear ho hall hl hQ
     generalize InvQ _ _ _ w0 a0 (lq.setIfInBounds 30 true) = K at hK ⊢
     clear hJ2 hS z1 z2 z3 z4 z6 z7
     go_simp
     exact hK _ _ z5 (fun _ _ h => h) rfl
   | 31, ho =>
     cases ho
     refine wpOp_of rfl rfl ?_
     have f25 : (aq.tmps.getD 43 undef) = .bool false := z6 25 43 (hall { on := 25, ground := Ground.data } (by simp) rfl) rfl
     have f30 : (aq.tmps.getD 48 undef) = .bool (decide (bY + bs < wb)) := z6 30 48 (hall { on := 30, ground := Ground.data } (by simp) rfl) rfl
     have hK := fun (v : Value) (W2 : World) hW hT hv => hJ2.put hS 31 49 rfl (by omega) (W' := W2) hW hT v hv
     clear ho hall hl hQ
     generalize InvQ _ _ _ w0 a0 (lq.setIfInBounds 31 true) = K at hK ⊢
     clear hJ2 hS z1 z2 z3 z4 z6 z7
     go_simp
     exact hK _ _ z5 (fun _ _ h => h) rfl
   | iq + 32, ho => simp at ho
 · intro lq aq W hJ hr
   obtain ⟨z1, z2, z3, z4, z5, z6, z7⟩ := hJ
   have hl := listed_of hr [0, 1, 2, 3, 4, 5, 6, 7, 8, 9, 10, 11, 12, 13, 14, 15, 16, 17, 18, 19, 20, 21, 22, 23, 24, 25, 26, 27, 28, 29, 30, 31] [] (by simp) (by kernel_rfl) (by rw [z1]; decide)
   exact hQ aq W z2 z3 (fun e he => z4 e (by simpa using he)) (z6 31 49 (hl 31 (by simp)) rfl) z5
end Go.Proofs.Ythelolpogdcmhaa
