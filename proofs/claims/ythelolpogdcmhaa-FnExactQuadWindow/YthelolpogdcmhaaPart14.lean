/- Part 14 of the walks that the proof leans on. -/
import Derived.Test.YthelolpogdcmhaaPart13
import Derived.Test.YthelolpogdcmhaaPart11
import Derived.Test.YthelolpogdcmhaaPart1
import Derived.Test.YthelolpogdcmhaaPart9
import Derived.Deep.QuietTactic
namespace Go.Proofs.Ythelolpogdcmhaa
open Go.RowKit
def OwnP (b : Nat) (LL : List Int) (w : World) (r : Ending) (w' : World) : Prop := ∃ v, r = .returned v ∧ w'.ownsRow b 2 1 v LL.length (LL.map (Value.int .i64)) ∧ Below w.heap.size w w'
def qwB (Q : QD) (m d wa wb wc wd : Int) : Bool := qOk Q m d && boxOk wa wb wc wd
def qwL (Q : QD) (m d wa wb wc wd : Int) : List Int := if qwB Q m d wa wb wc wd = true then winQ Q wa wb wc wd else []
def QwP (Q : QD) (m d wa wb wc wd : Int) (w : World) (r : Ending) (w' : World) : Prop := ∃ v, r = .returned (.tuple #[v, .bool (qwB Q m d wa wb wc wd)]) ∧ w'.ownsRow w.heap.size 2 1 v (qwL Q m d wa wb wc wd).length ((qwL Q m d wa wb wc wd).map (Value.int .i64)) ∧ Below w.heap.size w w'
theorem qw_no {Q : QD} {m d wa wb wc wd : Int} (h : qwB Q m d wa wb wc wd = false) {w w' : World} (hB : Below w.heap.size w w') : QwP Q m d wa wb wc wd w (.returned (.tuple #[.slice none 0 0, .bool false])) w' := by
 have e : qwL Q m d wa wb wc wd = [] := by unfold qwL; rw [if_neg (by rw [h]; decide)]
 refine ⟨_, by rw [h], ?_, hB⟩
 rw [e]
 exact World.ownsRow_nil _ _ _ _
theorem seg_left {a b c d : Int} (h : segOk a b c d = true) : a ≤ c := by
 unfold segOk lessI at h
 simp only [Bool.and_eq_true, decide_eq_true_eq] at h
 omega
theorem ev_root (Q : QD) {d : Int} (hd8 : d ≤ 8) : evT (trQ Q d.toNat 0 (-1048576) (-1048576) 2097152) 2097152 := by
 have e : (2097152 : Int) = 2 ^ d.toNat * 2 ^ (21 - d.toNat) := by
   rw [← Int.pow_add, show d.toNat + (21 - d.toNat) = 21 by omega]
   rfl
 have := ev_of d.toNat (trQ Q d.toNat 0 (-1048576) (-1048576) 2097152) (2 ^ (21 - d.toNat)) (dp_tr Q d.toNat 0 (-1048576) (-1048576) 2097152)
 rw [← e] at this
 exact this
theorem win_more (Q : QD) (p q u v : Int) (c : Nat) : idL Q ((List.range (c + 1)).filter (hitW Q p q u v)) = idL Q ((List.range c).filter (hitW Q p q u v)) ++ (if hitW Q p q u v c = true then [Q.I c] else []) := by
 unfold idL
 rw [List.range_succ, List.filter_append, List.map_append]
 cases h : hitW Q p q u v c <;> simp [h]
theorem box_in6 {x y u v : Int} (h : boxOk x y u v = true) : (In6 x ∧ In6 y ∧ In6 u ∧ In6 v) ∧ (-1048576 ≤ x ∧ -1048576 ≤ y ∧ u ≤ 1048576 ∧ v ≤ 1048576) ∧ x ≤ u ∧ y ≤ v := by
 unfold boxOk at h
 simp only [Bool.and_eq_true, decide_eq_true_eq] at h
 obtain ⟨⟨⟨h1, h2⟩, h3⟩, h4⟩ := h
 obtain ⟨a1, a2⟩ := in6_of_spot h1
 obtain ⟨a3, a4⟩ := in6_of_spot h2
 refine ⟨⟨a1, a2, a3, a4⟩, ?_, h3, h4⟩
 unfold In6 at a1 a2 a3 a4
 omega
def Vqws8 (P A off n cap kk : Nat) (sa sb sc sd wa wb wc wd : Int) (bh : Bool) (_B : Nat) : Nat → Value → World → Prop
 | 0, v, _ => v = .pointer (some ⟨P, 2, none⟩)
 | 1, v, _ => v = .slice (some ⟨A, off, none⟩) n cap
 | 2, v, _ => v = .int .i64 (kk : Int)
 | 3, v, _ => v = .pointer (some ⟨A, off + kk * 5, none⟩)
 | 4, v, _ => v = .pointer (some ⟨A, off + kk * 5 + 1, none⟩)
 | 5, v, _ => v = Sg sa sb sc sd
 | 6, v, _ => v = Sp wa wb
 | 7, v, _ => v = Sp wc wd
 | 8, v, _ => v = .bool bh
 | _, _, _ => True
theorem Vqws8.mono {P A off n cap kk : Nat} {sa sb sc sd wa wb wc wd : Int} {bh : Bool} {B j : Nat} {v : Value} {W W2 : World} (_hB : Below W.heap.size W W2) (h : Vqws8 P A off n cap kk sa sb sc sd wa wb wc wd bh B j v W) : Vqws8 P A off n cap kk sa sb sc sd wa wb wc wd bh B j v W2 := by
 unfold Vqws8 at *
 split <;> simp only at h <;> first | exact h | trivial
set_option maxRecDepth 100000 in
set_option maxHeartbeats 4000000 in
theorem qws8 {Q : Exit → Act → World → Prop} {P A off n cap kk : Nat} {sa sb sc sd wa wb wc wd : Int} {bh : Bool} {Lb Hb : Nat} {w0 : World} {a0 : Act} {idq : Nat} {t0 t1 t2 t3 t4 t5 t6 t7 t8 : TypeId} {q0 q1 q2 q3 q4 q5 q6 q7 q8 : String}
   (hkn : kk < n) (hn : n ≤ 40) (CM : ∀ W2 : World, Calls Try.prog 18 #[Sg sa sb sc sd, Sp wa wb, Sp wc wd] W2 (BoolP bh W2)) (h3 : a0.tmps[3]? = some (.pointer (some ⟨P, 0, none⟩))) (h4 : a0.tmps[4]? = some (.pointer (some ⟨Lb, 0, none⟩))) (h5 : a0.tmps[5]? = some (.pointer (some ⟨Hb, 0, none⟩))) (h11 : a0.tmps[11]? = some (.int .i64 (kk : Int))) (k0 : w0.cell? ⟨P, 2, none⟩ = some (.slice (some ⟨A, off, none⟩) n cap)) (l0 : (⟨P, 2, none⟩ : Addr).block < w0.heap.size) (k1 : w0.cell? ⟨A, off + kk * 5 + 1, none⟩ = some (.int .i64 sa)) (l1 : (⟨A, off + kk * 5 + 1, none⟩ : Addr).block < w0.heap.size) (k2 : w0.cell? ⟨A, off + kk * 5 + 1 + 1, none⟩ = some (.int .i64 sb)) (l2 : (⟨A, off + kk * 5 + 1 + 1, none⟩ : Addr).block < w0.heap.size) (k3 : w0.cell? ⟨A, off + kk * 5 + 1 + 2, none⟩ = some (.int .i64 sc)) (l3 : (⟨A, off + kk * 5 + 1 + 2, none⟩ : Addr).block < w0.heap.size) (k4 : w0.cell? ⟨A, off + kk * 5 + 1 + 3, none⟩ = some (.int .i64 sd)) (l4 : (⟨A, off + kk * 5 + 1 + 3, none⟩ : Addr).block < w0.heap.size) (k5 : w0.cell? ⟨Lb, 0, none⟩ = some (.int .i64 wa)) (l5 : (⟨Lb, 0, none⟩ : Addr).block < w0.heap.size) (k6 : w0.cell? ⟨Lb, 1, none⟩ = some (.int .i64 wb)) (l6 : (⟨Lb, 1, none⟩ : Addr).block < w0.heap.size) (k7 : w0.cell? ⟨Hb, 0, none⟩ = some (.int .i64 wc)) (l7 : (⟨Hb, 0, none⟩ : Addr).block < w0.heap.size) (k8 : w0.cell? ⟨Hb, 1, none⟩ = some (.int .i64 wd)) (l8 : (⟨Hb, 1, none⟩ : Addr).block < w0.heap.size) (hz : a0.tmps.size = 52)
   (hQ : ∀ aq W, aq.tmps.size = a0.tmps.size → aq.defers = a0.defers → (∀ e, e ∉ ([33, 34, 35, 36, 37, 38, 39, 40, 41] : List Nat) → aq.tmps[e]? = a0.tmps[e]?) → Vqws8 P A off n cap kk sa sb sc sd wa wb wc wd bh w0.heap.size 8 (aq.tmps.getD 41 undef) W → Below w0.heap.size w0 W → Q .normal aq W) :
   (Code.region idq #[{ dst := some 33, op := Op.fieldAddr 35 (Operand.tmp 3) 2, type := t0, pos := q0, after := #[], guard := none },
   { dst := some 34, op := Op.load 32 (Operand.tmp 33), type := t1, pos := q1, after := #[{ on := 0, ground := Ground.data }], guard := none },
   { dst := some 35, op := Op.move (Operand.tmp 11), type := t2, pos := q2, after := #[], guard := none },
   { dst := some 36, op := Op.indexAddr 32 (Operand.tmp 34) (Operand.tmp 35), type := t3, pos := q3, after := #[{ on := 1, ground := Ground.data }, { on := 2, ground := Ground.data }], guard := none },
   { dst := some 37, op := Op.fieldAddr 56 (Operand.tmp 36) 1, type := t4, pos := q4, after := #[{ on := 3, ground := Ground.data }], guard := none },
   { dst := some 38, op := Op.load 54 (Operand.tmp 37), type := t5, pos := q5, after := #[{ on := 4, ground := Ground.data }], guard := none },
   { dst := some 39, op := Op.load 37 (Operand.tmp 4), type := t6, pos := q6, after := #[], guard := none },
   { dst := some 40, op := Op.load 37 (Operand.tmp 5), type := t7, pos := q7, after := #[], guard := none },
   { dst := some 41, op := Op.call { callee := Callee.value (Operand.func 18), args := #[Operand.tmp 38, Operand.tmp 39, Operand.tmp 40], argTypes := #[54, 37, 37] }, type := t8, pos := q8, after := #[{ on := 5, ground := Ground.data }, { on := 6, ground := Ground.data }, { on := 7, ground := Ground.data }], guard := none }] true).wp Try.prog Q a0 w0 := by
 have hS : distS [some 33, some 34, some 35, some 36, some 37, some 38, some 39, some 40, some 41] = true := rfl
 refine wp_region_q (by kernel_rfl) w0.heap.size [some 33, some 34, some 35, some 36, some 37, some 38, some 39, some 40, some 41] (Vqws8 P A off n cap kk sa sb sc sd wa wb wc wd bh w0.heap.size) rfl ?_ ?_
 · intro Q lq aq W iq oq hJ hl ho hall
   have hJ2 := hJ
   obtain ⟨z1, z2, z3, z4, z5, z6, z7⟩ := hJ
   have g3 : aq.tmps.getD 3 undef = .pointer (some ⟨P, 0, none⟩) := by rw [Array.getD_eq_getD_getElem?, z4 3 (by decide), h3]; rfl
   have g4 : aq.tmps.getD 4 undef = .pointer (some ⟨Lb, 0, none⟩) := by rw [Array.getD_eq_getD_getElem?, z4 4 (by decide), h4]; rfl
   have g5 : aq.tmps.getD 5 undef = .pointer (some ⟨Hb, 0, none⟩) := by rw [Array.getD_eq_getD_getElem?, z4 5 (by decide), h5]; rfl
   have g11 : aq.tmps.getD 11 undef = .int .i64 (kk : Int) := by rw [Array.getD_eq_getD_getElem?, z4 11 (by decide), h11]; rfl
   have c0 : W.cell? ⟨P, 2, none⟩ = some (.slice (some ⟨A, off, none⟩) n cap) := (z5.cell l0).trans k0
   have c1 : W.cell? ⟨A, off + kk * 5 + 1, none⟩ = some (.int .i64 sa) := (z5.cell l1).trans k1
   have c2 : W.cell? ⟨A, off + kk * 5 + 1 + 1, none⟩ = some (.int .i64 sb) := (z5.cell l2).trans k2
   have c3 : W.cell? ⟨A, off + kk * 5 + 1 + 2, none⟩ = some (.int .i64 sc) := (z5.cell l3).trans k3
   have c4 : W.cell? ⟨A, off + kk * 5 + 1 + 3, none⟩ = some (.int .i64 sd) := (z5.cell l4).trans k4
   have c5 : W.cell? ⟨Lb, 0, none⟩ = some (.int .i64 wa) := (z5.cell l5).trans k5
   have c6 : W.cell? ⟨Lb, 1, none⟩ = some (.int .i64 wb) := (z5.cell l6).trans k6
   have c7 : W.cell? ⟨Hb, 0, none⟩ = some (.int .i64 wc) := (z5.cell l7).trans k7
   have c8 : W.cell? ⟨Hb, 1, none⟩ = some (.int .i64 wd) := (z5.cell l8).trans k8
   match iq, ho with
   | 0, ho =>
     cases ho
     refine wpOp_of rfl rfl ?_
     have hK := fun (v : Value) (W2 : World) hW hT hv => hJ2.put hS 0 33 rfl (by omega) (W' := W2) hW hT v hv
     clear ho hall hl hQ
     generalize InvQ _ _ _ w0 a0 (lq.setIfInBounds 0 true) = K at hK ⊢
     clear hJ2 hS z1 z2 z3 z4 z6 z7
     go_simp
     exact hK _ _ z5 (fun _ _ h => h) rfl
   | 1, ho =>
     cases ho
     refine wpOp_of rfl rfl ?_
     have f0 : (aq.tmps.getD 33 undef) = .pointer (some ⟨P, 2, none⟩) := z6 0 33 (hall { on := 0, ground := Ground.data } (by simp) rfl) rfl
     have hK := fun (v : Value) (W2 : World) hW hT hv => hJ2.put hS 1 34 rfl (by omega) (W' := W2) hW hT v hv
     clear ho hall hl hQ
     generalize InvQ _ _ _ w0 a0 (lq.setIfInBounds 1 true) = K at hK ⊢
     clear hJ2 hS z1 z2 z3 z4 z6 z7
     go_simp
     exact hK _ _ z5 (fun _ _ h => h) rfl
   | 2, ho =>
     cases ho
     refine wpOp_of rfl rfl ?_
     have hK := fun (v : Value) (W2 : World) hW hT hv => hJ2.put hS 2 35 rfl (by omega) (W' := W2) hW hT v hv
     clear ho hall hl hQ
     generalize InvQ _ _ _ w0 a0 (lq.setIfInBounds 2 true) = K at hK ⊢
     clear hJ2 hS z1 z2 z3 z4 z6 z7
     go_simp
     exact hK _ _ z5 (fun _ _ h => h) rfl
   | 3, ho =>
     cases ho
     refine wpOp_of rfl rfl ?_
     have f1 : (aq.tmps.getD 34 undef) = .slice (some ⟨A, off, none⟩) n cap := z6 1 34 (hall { on := 1, ground := Ground.data } (by simp) rfl) rfl
     have f2 : (aq.tmps.getD 35 undef) = .int .i64 (kk : Int) := z6 2 35 (hall { on := 2, ground := Ground.data } (by simp) rfl) rfl
     have hkI0 : (kk : Int) < n := by omega
     have hnI0 : (n : Int) ≤ 40 := by omega
     have hK := fun (v : Value) (W2 : World) hW hT hv => hJ2.put hS 3 36 rfl (by omega) (W' := W2) hW hT v hv
     clear ho hall hl hQ
     generalize InvQ _ _ _ w0 a0 (lq.setIfInBounds 3 true) = K at hK ⊢
     clear hJ2 hS z1 z2 z3 z4 z6 z7
     go_simp
     exact hK _ _ z5 (fun _ _ h => h) rfl
   | 4, ho =>
     cases ho
     refine wpOp_of rfl rfl ?_
     have f3 : (aq.tmps.getD 36 undef) = .pointer (some ⟨A, off + kk * 5, none⟩) := z6 3 36 (hall { on := 3, ground := Ground.data } (by simp) rfl) rfl
     have hK := fun (v : Value) (W2 : World) hW hT hv => hJ2.put hS 4 37 rfl (by omega) (W' := W2) hW hT v hv
     clear ho hall hl hQ
     generalize InvQ _ _ _ w0 a0 (lq.setIfInBounds 4 true) = K at hK ⊢
     clear hJ2 hS z1 z2 z3 z4 z6 z7
     go_simp
     exact hK _ _ z5 (fun _ _ h => h) rfl
   | 5, ho =>
     cases ho
     refine wpOp_of rfl rfl ?_
     have f4 : (aq.tmps.getD 37 undef) = .pointer (some ⟨A, off + kk * 5 + 1, none⟩) := z6 4 37 (hall { on := 4, ground := Ground.data } (by simp) rfl) rfl
     have hK := fun (v : Value) (W2 : World) hW hT hv => hJ2.put hS 5 38 rfl (by omega) (W' := W2) hW hT v hv
     clear ho hall hl hQ
     generalize InvQ _ _ _ w0 a0 (lq.setIfInBounds 5 true) = K at hK ⊢
     clear hJ2 hS z1 z2 z3 z4 z6 z7
     go_simp
     exact hK _ _ z5 (fun _ _ h => h) rfl
   | 6, ho =>
     cases ho
     refine wpOp_of rfl rfl ?_
     have hK := fun (v : Value) (W2 : World) hW hT hv => hJ2.put hS 6 39 rfl (by omega) (W' := W2) hW hT v hv
     clear ho hall hl hQ
     generalize InvQ _ _ _ w0 a0 (lq.setIfInBounds 6 true) = K at hK ⊢
     clear hJ2 hS z1 z2 z3 z4 z6 z7
     go_simp
     exact hK _ _ z5 (fun _ _ h => h) rfl
   | 7, ho =>
     cases ho
     refine wpOp_of rfl rfl ?_
     have hK := fun (v : Value) (W2 : World) hW hT hv => hJ2.put hS 7 40 rfl (by omega) (W' := W2) hW hT v hv
     clear ho hall hl hQ
     generalize InvQ _ _ _ w0 a0 (lq.setIfInBounds 7 true) = K at hK ⊢
     clear hJ2 hS z1 z2 z3 z4 z6 z7
     go_simp
     exact hK _ _ z5 (fun _ _ h => h) rfl
   | 8, ho =>
     cases ho
     refine wpOp_of rfl rfl ?_
     have f5 : (aq.tmps.getD 38 undef) = Sg sa sb sc sd := z6 5 38 (hall { on := 5, ground := Ground.data } (by simp) rfl) rfl
     have f6 : (aq.tmps.getD 39 undef) = Sp wa wb := z6 6 39 (hall { on := 6, ground := Ground.data } (by simp) rfl) rfl
     have f7 : (aq.tmps.getD 40 undef) = Sp wc wd := z6 7 40 (hall { on := 7, ground := Ground.data } (by simp) rfl) rfl
     have hK := fun (v : Value) (W2 : World) hW hT hv => hJ2.put hS 8 41 rfl (by omega) (W' := W2) hW hT v hv
     clear ho hall hl hQ
     generalize InvQ _ _ _ w0 a0 (lq.setIfInBounds 8 true) = K at hK ⊢
     clear hJ2 hS z1 z2 z3 z4 z6 z7
     go_simp
     refine (CM W).mono ?_
     rintro e v1 ⟨rfl, hBv⟩
     exact hK _ _ (z5.trans (hBv.mono z5.size)) (fun j v h => h.mono hBv) rfl
   | iq + 9, ho => simp at ho
 · intro lq aq W hJ hr
   obtain ⟨z1, z2, z3, z4, z5, z6, z7⟩ := hJ
   have hl := listed_of hr [0, 1, 2, 3, 4, 5, 6, 7, 8] [] (by simp) (by kernel_rfl) (by rw [z1]; decide)
   exact hQ aq W z2 z3 (fun e he => z4 e (by simpa using he)) (z6 8 41 (hl 8 (by simp)) rfl) z5
def Vqwi4 (gq gr : Nat) (LL : List Int) (wa wb wc wd : Int) (B : Nat) : Nat → Value → World → Prop
 | 0, v, _ => v = .pointer (some ⟨gq, 0, none⟩)
 | 1, v, _ => v = .pointer (some ⟨gq, 0, none⟩)
 | 2, v, _ => v = .pointer (some ⟨gq, 0, none⟩)
 | 3, v, _ => v = .pointer (some ⟨gq, 3, none⟩)
 | 4, v, _ => v = .pointer (some ⟨gr, 0, none⟩)
 | 5, v, _ => v = Sp wa wb
 | 6, v, _ => v = Sp wc wd
 | 7, v, W => W.ownsRow B 2 1 v LL.length (LL.map (Value.int .i64))
 | 8, v, W => W.ownsRow B 2 1 v LL.length (LL.map (Value.int .i64))
 | _, _, _ => True
theorem Vqwi4.mono {gq gr : Nat} {LL : List Int} {wa wb wc wd : Int} {B j : Nat} {v : Value} {W W2 : World} (hB : Below W.heap.size W W2) (h : Vqwi4 gq gr LL wa wb wc wd B j v W) : Vqwi4 gq gr LL wa wb wc wd B j v W2 := by
 unfold Vqwi4 at *
 split <;> simp only at h <;> first | exact h | exact ownA_step h hB | trivial
set_option maxRecDepth 100000 in
set_option maxHeartbeats 4000000 in
theorem qwi4 {Q : Exit → Act → World → Prop} {gq gr : Nat} {LL : List Int} {wa wb wc wd : Int} {Lb Hb : Nat} {w0 : World} {a0 : Act} {idq : Nat} {t0 t1 t2 t3 t4 t5 t6 t7 t8 : TypeId} {q0 q1 q2 q3 q4 q5 q6 q7 q8 : String}
   (CW : ∀ W2 : World, Below w0.heap.size w0 W2 → Calls Try.prog 23 #[.pointer (some ⟨gq, 0, none⟩), .pointer (some ⟨gr, 0, none⟩), Sp wa wb, Sp wc wd, .slice none 0 0] W2 (OwnP w0.heap.size LL W2)) (h8 : a0.tmps[8]? = some (.pointer (some ⟨gq, 0, none⟩))) (h4 : a0.tmps[4]? = some (.pointer (some ⟨Lb, 0, none⟩))) (h5 : a0.tmps[5]? = some (.pointer (some ⟨Hb, 0, none⟩))) (k0 : w0.cell? ⟨gq, 3, none⟩ = some (.pointer (some ⟨gr, 0, none⟩))) (l0 : (⟨gq, 3, none⟩ : Addr).block < w0.heap.size) (k1 : w0.cell? ⟨Lb, 0, none⟩ = some (.int .i64 wa)) (l1 : (⟨Lb, 0, none⟩ : Addr).block < w0.heap.size) (k2 : w0.cell? ⟨Lb, 1, none⟩ = some (.int .i64 wb)) (l2 : (⟨Lb, 1, none⟩ : Addr).block < w0.heap.size) (k3 : w0.cell? ⟨Hb, 0, none⟩ = some (.int .i64 wc)) (l3 : (⟨Hb, 0, none⟩ : Addr).block < w0.heap.size) (k4 : w0.cell? ⟨Hb, 1, none⟩ = some (.int .i64 wd)) (l4 : (⟨Hb, 1, none⟩ : Addr).block < w0.heap.size) (hz : a0.tmps.size = 36)
   (hQ : ∀ aq W, aq.tmps.size = a0.tmps.size → aq.defers = a0.defers → (∀ e, e ∉ ([24, 25, 26, 27, 28, 29, 30, 31, 10] : List Nat) → aq.tmps[e]? = a0.tmps[e]?) → Vqwi4 gq gr LL wa wb wc wd w0.heap.size 8 (aq.tmps.getD 10 undef) W → Below w0.heap.size w0 W → Q .normal aq W) :
   (Code.region idq #[{ dst := some 24, op := Op.move (Operand.tmp 8), type := t0, pos := q0, after := #[], guard := none },
   { dst := some 25, op := Op.move (Operand.tmp 8), type := t1, pos := q1, after := #[], guard := none },
   { dst := some 26, op := Op.nilCheck (Operand.tmp 25), type := t2, pos := q2, after := #[{ on := 1, ground := Ground.data }], guard := none },
   { dst := some 27, op := Op.fieldAddr 65 (Operand.tmp 26) 3, type := t3, pos := q3, after := #[{ on := 2, ground := Ground.data }], guard := none },
   { dst := some 28, op := Op.load 63 (Operand.tmp 27), type := t4, pos := q4, after := #[{ on := 3, ground := Ground.data }], guard := none },
   { dst := some 29, op := Op.load 37 (Operand.tmp 4), type := t5, pos := q5, after := #[], guard := none },
   { dst := some 30, op := Op.load 37 (Operand.tmp 5), type := t6, pos := q6, after := #[], guard := none },
   { dst := some 31, op := Op.call { callee := Callee.value (Operand.func 23), args := #[Operand.tmp 24, Operand.tmp 28, Operand.tmp 29, Operand.tmp 30, Operand.const (Value.slice none 0 0)], argTypes := #[59, 63, 37, 37, 29] }, type := t7, pos := q7, after := #[{ on := 0, ground := Ground.data }, { on := 4, ground := Ground.data }, { on := 5, ground := Ground.data }, { on := 6, ground := Ground.data }], guard := none },
   { dst := some 10, op := Op.assign (Operand.tmp 31), type := t8, pos := q8, after := #[{ on := 7, ground := Ground.data }, { on := 7, ground := Ground.chain }, { on := 0, ground := Ground.phase }, { on := 1, ground := Ground.phase }, { on := 2, ground := Ground.phase }, { on := 3, ground := Ground.phase }, { on := 4, ground := Ground.phase }, { on := 5, ground := Ground.phase }, { on := 6, ground := Ground.phase }, { on := 7, ground := Ground.phase }], guard := none }] true).wp Try.prog Q a0 w0 := by
 have hS : distS [some 24, some 25, some 26, some 27, some 28, some 29, some 30, some 31, some 10] = true := rfl
 refine wp_region_q (by kernel_rfl) w0.heap.size [some 24, some 25, some 26, some 27, some 28, some 29, some 30, some 31, some 10] (Vqwi4 gq gr LL wa wb wc wd w0.heap.size) rfl ?_ ?_
 · intro Q lq aq W iq oq hJ hl ho hall
   have hJ2 := hJ
   obtain ⟨z1, z2, z3, z4, z5, z6, z7⟩ := hJ
   have g8 : aq.tmps.getD 8 undef = .pointer (some ⟨gq, 0, none⟩) := by rw [Array.getD_eq_getD_getElem?, z4 8 (by decide), h8]; rfl
   have g4 : aq.tmps.getD 4 undef = .pointer (some ⟨Lb, 0, none⟩) := by rw [Array.getD_eq_getD_getElem?, z4 4 (by decide), h4]; rfl
   have g5 : aq.tmps.getD 5 undef = .pointer (some ⟨Hb, 0, none⟩) := by rw [Array.getD_eq_getD_getElem?, z4 5 (by decide), h5]; rfl
   have c0 : W.cell? ⟨gq, 3, none⟩ = some (.pointer (some ⟨gr, 0, none⟩)) := (z5.cell l0).trans k0
   have c1 : W.cell? ⟨Lb, 0, none⟩ = some (.int .i64 wa) := (z5.cell l1).trans k1
   have c2 : W.cell? ⟨Lb, 1, none⟩ = some (.int .i64 wb) := (z5.cell l2).trans k2
   have c3 : W.cell? ⟨Hb, 0, none⟩ = some (.int .i64 wc) := (z5.cell l3).trans k3
   have c4 : W.cell? ⟨Hb, 1, none⟩ = some (.int .i64 wd) := (z5.cell l4).trans k4
   match iq, ho with
   | 0, ho =>
     cases ho
     refine wpOp_of rfl rfl ?_
     have hK := fun (v : Value) (W2 : World) hW hT hv => hJ2.put hS 0 24 rfl (by omega) (W' := W2) hW hT v hv
     clear ho hall hl hQ
     generalize InvQ _ _ _ w0 a0 (lq.setIfInBounds 0 true) = K at hK ⊢
     clear hJ2 hS z1 z2 z3 z4 z6 z7
     go_simp
     exact hK _ _ z5 (fun _ _ h => h) rfl
   | 1, ho =>
     cases ho
     refine wpOp_of rfl rfl ?_
     have hK := fun (v : Value) (W2 : World) hW hT hv => hJ2.put hS 1 25 rfl (by omega) (W' := W2) hW hT v hv
     clear ho hall hl hQ
     generalize InvQ _ _ _ w0 a0 (lq.setIfInBounds 1 true) = K at hK ⊢
     clear hJ2 hS z1 z2 z3 z4 z6 z7
     go_simp
     exact hK _ _ z5 (fun _ _ h => h) rfl
   | 2, ho =>
     cases ho
     refine wpOp_of rfl rfl ?_
     have f1 : (aq.tmps.getD 25 undef) = .pointer (some ⟨gq, 0, none⟩) := z6 1 25 (hall { on := 1, ground := Ground.data } (by simp) rfl) rfl
     have hK := fun (v : Value) (W2 : World) hW hT hv => hJ2.put hS 2 26 rfl (by omega) (W' := W2) hW hT v hv
     clear ho hall hl hQ
     generalize InvQ _ _ _ w0 a0 (lq.setIfInBounds 2 true) = K at hK ⊢
     clear hJ2 hS z1 z2 z3 z4 z6 z7
     go_simp
     exact hK _ _ z5 (fun _ _ h => h) rfl
   | 3, ho =>
     cases ho
     refine wpOp_of rfl rfl ?_
     have f2 : (aq.tmps.getD 26 undef) = .pointer (some ⟨gq, 0, none⟩) := z6 2 26 (hall { on := 2, ground := Ground.data } (by simp) rfl) rfl
     have hK := fun (v : Value) (W2 : World) hW hT hv => hJ2.put hS 3 27 rfl (by omega) (W' := W2) hW hT v hv
     clear ho hall hl hQ
     generalize InvQ _ _ _ w0 a0 (lq.setIfInBounds 3 true) = K at hK ⊢
     clear hJ2 hS z1 z2 z3 z4 z6 z7
     go_simp
     exact hK _ _ z5 (fun _ _ h => h) rfl
   | 4, ho =>
     cases ho
     refine wpOp_of rfl rfl ?_
     have f3 : (aq.tmps.getD 27 undef) = .pointer (some ⟨gq, 3, none⟩) := z6 3 27 (hall { on := 3, ground := Ground.data } (by simp) rfl) rfl
     have hK := fun (v : Value) (W2 : World) hW hT hv => hJ2.put hS 4 28 rfl (by omega) (W' := W2) hW hT v hv
     clear ho hall hl hQ
     generalize InvQ _ _ _ w0 a0 (lq.setIfInBounds 4 true) = K at hK ⊢
     clear hJ2 hS z1 z2 z3 z4 z6 z7
     go_simp
     exact hK _ _ z5 (fun _ _ h => h) rfl
   | 5, ho =>
     cases ho
     refine wpOp_of rfl rfl ?_
     have hK := fun (v : Value) (W2 : World) hW hT hv => hJ2.put hS 5 29 rfl (by omega) (W' := W2) hW hT v hv
     clear ho hall hl hQ
     generalize InvQ _ _ _ w0 a0 (lq.setIfInBounds 5 true) = K at hK ⊢
     clear hJ2 hS z1 z2 z3 z4 z6 z7
     go_simp
     exact hK _ _ z5 (fun _ _ h => h) rfl
   | 6, ho =>
     cases ho
     refine wpOp_of rfl rfl ?_
     have hK := fun (v : Value) (W2 : World) hW hT hv => hJ2.put hS 6 30 rfl (by omega) (W' := W2) hW hT v hv
     clear ho hall hl hQ
     generalize InvQ _ _ _ w0 a0 (lq.setIfInBounds 6 true) = K at hK ⊢
     clear hJ2 hS z1 z2 z3 z4 z6 z7
     go_simp
     exact hK _ _ z5 (fun _ _ h => h) rfl
   | 7, ho =>
     cases ho
     refine wpOp_of rfl rfl ?_
     have f0 : (aq.tmps.getD 24 undef) = .pointer (some ⟨gq, 0, none⟩) := z6 0 24 (hall { on := 0, ground := Ground.data } (by simp) rfl) rfl
     have f4 : (aq.tmps.getD 28 undef) = .pointer (some ⟨gr, 0, none⟩) := z6 4 28 (hall { on := 4, ground := Ground.data } (by simp) rfl) rfl
     have f5 : (aq.tmps.getD 29 undef) = Sp wa wb := z6 5 29 (hall { on := 5, ground := Ground.data } (by simp) rfl) rfl
     have f6 : (aq.tmps.getD 30 undef) = Sp wc wd := z6 6 30 (hall { on := 6, ground := Ground.data } (by simp) rfl) rfl
     have hK := fun (v : Value) (W2 : World) hW hT hv => hJ2.put hS 7 31 rfl (by omega) (W' := W2) hW hT v hv
     clear ho hall hl hQ
     generalize InvQ _ _ _ w0 a0 (lq.setIfInBounds 7 true) = K at hK ⊢
     clear hJ2 hS z1 z2 z3 z4 z6 z7
     go_simp
     refine (CW W z5).mono ?_
     rintro e v1 ⟨vv, rfl, hO, hBv⟩
     exact hK _ _ (z5.trans (hBv.mono z5.size)) (fun j v h => h.mono hBv) hO
   | 8, ho =>
     cases ho
     refine wpOp_of rfl rfl ?_
     have f7 : W.ownsRow w0.heap.size 2 1 (aq.tmps.getD 31 undef) LL.length (LL.map (Value.int .i64)) := z6 7 31 (hall { on := 7, ground := Ground.data } (by simp) rfl) rfl
     have hK := fun (v : Value) (W2 : World) hW hT hv => hJ2.put hS 8 10 rfl (by omega) (W' := W2) hW hT v hv
     clear ho hall hl hQ
     generalize InvQ _ _ _ w0 a0 (lq.setIfInBounds 8 true) = K at hK ⊢
     clear hJ2 hS z1 z2 z3 z4 z6 z7
     go_simp
     exact hK _ _ z5 (fun _ _ h => h) (by first | exact f7 | (rw [Array.getD_eq_getD_getElem?] at f7; exact f7))
   | iq + 9, ho => simp at ho
 · intro lq aq W hJ hr
   obtain ⟨z1, z2, z3, z4, z5, z6, z7⟩ := hJ
   have hl := listed_of hr [0, 1, 2, 3, 4, 5, 6, 7, 8] [] (by simp) (by kernel_rfl) (by rw [z1]; decide)
   exact hQ aq W z2 z3 (fun e he => z4 e (by simpa using he)) (z6 8 10 (hl 8 (by simp)) rfl) z5
set_option maxRecDepth 100000 in
set_option maxHeartbeats 8000000 in
theorem specQuadWindow_any (w : World) (Q : QD) (ao bo : Option Addr) (cap bcap A off : Nat) (so : Nat → Option Addr × Nat) (m d : Int) (hm : Q.m ≤ 1048576) (hN : Q.N ≤ 1048576) (hL : ∀ i, i < Q.N → Q.L i ≤ 1048576) (hbo : 0 < Q.N → bo = some ⟨A, off, none⟩) (hso : ∀ i, i < Q.N → (so i).1 = none → (so i).2 = 0) (hS : ItIn Q w ao (List.range Q.m)) (hBl : BlIn Q w A off so) (wa wb wc wd : Int) : Calls Try.prog 5 #[.agg #[.int .i64 m, .int .i64 d, .slice ao Q.m cap, .slice bo Q.N bcap], Sp wa wb, Sp wc wd] w (QwP Q m d wa wb wc wd w) := by
 have BP := ((Blk.new w [.int .i64 m, .int .i64 d, .slice ao Q.m cap, .slice bo Q.N bcap] 35 rfl).alloc (.cells #[.int .i64 wa, .int .i64 wb] 37)).alloc (.cells #[.int .i64 wc, .int .i64 wd] 37)
 have BL := (Blk.new (w.alloc (.cells #[.int .i64 m, .int .i64 d, .slice ao Q.m cap, .slice bo Q.N bcap] 35)) [.int .i64 wa, .int .i64 wb] 37 rfl).alloc (.cells #[.int .i64 wc, .int .i64 wd] 37)
 have BH := Blk.new ((w.alloc (.cells #[.int .i64 m, .int .i64 d, .slice ao Q.m cap, .slice bo Q.N bcap] 35)).alloc (.cells #[.int .i64 wa, .int .i64 wb] 37)) [.int .i64 wc, .int .i64 wd] 37 rfl
 simp only [World.size_alloc] at BL BH
 have HB : Below w.heap.size w (((w.alloc (.cells #[.int .i64 m, .int .i64 d, .slice ao Q.m cap, .slice bo Q.N bcap] 35)).alloc (.cells #[.int .i64 wa, .int .i64 wb] 37)).alloc (.cells #[.int .i64 wc, .int .i64 wd] 37)) := (((Below.refl _ w).alloc (Nat.le_refl _) _).alloc (by simp) _).alloc (by simp; omega) _
 have C := l13Root_any (((w.alloc (.cells #[.int .i64 m, .int .i64 d, .slice ao Q.m cap, .slice bo Q.N bcap] 35)).alloc (.cells #[.int .i64 wa, .int .i64 wb] 37)).alloc (.cells #[.int .i64 wc, .int .i64 wd] 37)) Q ao bo cap bcap A off so m d hm hN hL hbo hso (hS.step HB) (hBl.below HB)
 have HSH : Hid (∀ W, Below w.heap.size w W → ItIn Q W ao (List.range Q.m)) := fun W h => hS.step h
 clear hS hBl
 go_enter Try.func5, Try.ntmps5
 go_upto_region 1 with fail
 generalize (((w.alloc (.cells #[.int .i64 m, .int .i64 d, .slice ao Q.m cap, .slice bo Q.N bcap] 35)).alloc (.cells #[.int .i64 wa, .int .i64 wb] 37)).alloc (.cells #[.int .i64 wc, .int .i64 wd] 37)) = W1 at *
 have c0 := BP.c 0 rfl; have c1 := BP.c 1 rfl; have c2 := BP.c 2 rfl; have c3 := BP.c 3 rfl
 go_wp2_with fail
 refine C.mono ?_
 rintro r w1 ⟨hB1, h⟩
 replace BP := BP.step hB1
 replace BL := BL.step hB1
 replace BH := BH.step hB1
 replace HB := HB.trans (hB1.mono HB.size)
 clear C c0 c1 c2 c3 hB1
 rcases h with ⟨hq, rfl⟩ | ⟨hq, kv, ev, rfl, hM⟩
 · have HQ : Hid (qwB Q m d wa wb wc wd = false) := by show _ = _; unfold qwB; rw [hq]; rfl
   have HB2 := HB.alloc HB.size (.cells #[.int .i64 0, .int .i64 0, .int .i64 0, .slice none 0 0, .slice none 0 0] 48)
   clear hq BP BL BH HB
   go_wp2
   go_ret2
   exact qw_no HQ.out HB2
 · obtain ⟨ko, kn, kc, eo, en, ec, rfl, rfl⟩ := hM.vals
   have hB2 := (Below.refl w1.heap.size w1).alloc (Nat.le_refl _) (.cells #[.int .i64 (-1048576), .int .i64 (-1048576), .int .i64 2097152, .slice ko kn kc, .slice eo en ec] 48)
   replace BP := BP.step hB2
   replace BL := BL.step hB2
   replace BH := BH.step hB2
   replace HB := HB.trans (hB2.mono HB.size)
   have hms := w1.heap.size
   clear hB2 hM
   go_upto_region 2 with fail
   generalize (w1.alloc (.cells #[.int .i64 (-1048576), .int .i64 (-1048576), .int .i64 2097152, .slice ko kn kc, .slice eo en ec] 48)) = W2 at *
   have l0 := BL.c 0 rfl; have l1 := BL.c 1 rfl; have h0 := BH.c 0 rfl; have h1 := BH.c 1 rfl
   go_wp2_with fail
   refine (l4Box_any wa wb wc wd _ rfl _).mono ?_
   rintro e w2 ⟨rfl, hB2⟩
   replace BP := BP.step hB2
   replace BL := BL.step hB2
   replace BH := BH.step hB2
   replace HB := HB.trans (hB2.mono HB.size)
   clear hB2 l0 l1 h0 h1
   cases hbx : boxOk wa wb wc wd with
   | false =>
     have HQ : Hid (qwB Q m d wa wb wc wd = false) := by show _ = _; unfold qwB; rw [hbx, Bool.and_false]
     clear hq hbx BP BL BH
     go_wp2
     go_ret2
     exact qw_no HQ.out HB
   | true =>
     have HQ : Hid (qwB Q m d wa wb wc wd = true) := by show _ = _; unfold qwB; rw [hbx, hq]; rfl
     have HQL : Hid (qwL Q m d wa wb wc wd = winQ Q wa wb wc wd) := if_pos HQ.out
     obtain ⟨_, _, hits, _⟩ := qOk_all hq
     have H6 : Hid (Its6 Q (List.range Q.m)) := its6_of hits
     have hm40 : Q.m ≤ 40 := (of_decide_eq_true hits).1
     obtain ⟨⟨ia, ib, ic, id⟩, _, _⟩ := box_in6 hbx
     obtain ⟨i0, hi, hz0, hz1, hz2⟩ := info_parts Try.infoNo
     obtain ⟨n, hn⟩ : ∃ n, Q.m = n := ⟨_, rfl⟩
     have HN : Hid (Q.m = n) := hn
     rw [hn] at BP hm40
     have hnI : (n : Int) ≤ 40 := by omega
     have hBs : w.heap.size ≤ w2.heap.size := HB.size
     have hB3 : w.heap.size + 3 ≤ w2.heap.size := BH.lt
     clear hits hq hbx hn
     go_wp2_with fail
     go_loopw [10, 11] (fun o i wr => ∃ c : Nat, c ≤ n ∧ i = .int .i64 c ∧ wr.ownsRow (w.heap.size + 3) 2 1 o (idL Q ((List.range c).filter (hitW Q wa wb wc wd))).length ((idL Q ((List.range c).filter (hitW Q wa wb wc wd))).map (Value.int .i64)) ∧ Blk wr w.heap.size [.int .i64 m, .int .i64 d, .slice ao n cap, .slice bo Q.N bcap] ∧ Blk wr (w.heap.size + 1) [.int .i64 wa, .int .i64 wb] ∧ Blk wr (w.heap.size + 1 + 1) [.int .i64 wc, .int .i64 wd] ∧ Below w.heap.size w wr) (fun _ i _ => n - (intOf i).toNat)
     case atStart => exact ⟨0, by omega, rfl, World.ownsRow_made w2 #[] 0 hB3 (by decide) rfl, BP.alloc _, BL.alloc _, BH.alloc _, HB.alloc hBs _⟩
     case round =>
       clear BP BL BH HB hBs
       obtain ⟨c, hc, rfl, HO, BP, BL, BH, HB⟩ := hrel
       have hBs := HB.size
       by_cases hcn : c < n
       · have hcI : (c : Int) < n := by omega
         have hcm : c < Q.m := by have := HN.out; omega
         obtain ⟨A5, off5, hio, hA5, q0, q1, q2, q3, q4⟩ := HSH.out wr HB c c (by rw [List.getElem?_range hcm])
         subst hio
         obtain ⟨sa6, sb6, sc6, sd6⟩ := H6.out c (List.mem_range.2 hcm)
         have MB := l4MeetsBox_any (Q.S c).1 (Q.S c).2.1 (Q.S c).2.2.1 (Q.S c).2.2.2 wa wb wc wd sa6 sb6 sc6 sd6 ia ib ic id
         change ∀ w, Calls _ _ _ w (BoolP (hitW Q wa wb wc wd c) w) at MB
         obtain ⟨bh, hbh⟩ : ∃ b, hitW Q wa wb wc wd c = b := ⟨_, rfl⟩
         have HFM : Hid (idL Q ((List.range (c + 1)).filter (hitW Q wa wb wc wd)) = idL Q ((List.range c).filter (hitW Q wa wb wc wd)) ++ (if bh = true then [Q.I c] else [])) := by rw [← hbh]; exact win_more Q wa wb wc wd c
         rw [hbh] at MB
         have m2 := BP.c 2 rfl
         go_upto_region 8 with fail
         refine qws8 (P := w.heap.size) (A := A5) (off := off5) (n := n) (cap := cap) (kk := c) (sa := (Q.S c).1) (sb := (Q.S c).2.1) (sc := (Q.S c).2.2.1) (sd := (Q.S c).2.2.2) (wa := wa) (wb := wb) (wc := wc) (wd := wd) (bh := bh) (Lb := w.heap.size + 1) (Hb := w.heap.size + 1 + 1) hcn hm40 MB rfl rfl rfl rfl m2 BP.lt q1 hA5 q2 hA5 q3 hA5 q4 hA5 (BL.c 0 rfl) BL.lt (BL.c 1 rfl) BL.lt (BH.c 0 rfl) BH.lt (BH.c 1 rfl) BH.lt rfl ?_
         rintro ⟨tm, df⟩ Wz hz hdf hoff h41 hBz
         simp only at hz hdf hoff h41
         change tm.getD 41 undef = .bool bh at h41
         subst hdf
         have htm := tmps_fold [33, 34, 35, 36, 37, 38, 39, 40, 41] tm _ hz hoff
         simp only [List.foldl, List.setIfInBounds_toArray, List.set_cons_zero, List.set_cons_succ, h41] at htm
         clear hz hoff
         generalize tm.getD 33 undef = pz0, tm.getD 34 undef = pz1, tm.getD 35 undef = pz2, tm.getD 36 undef = pz3, tm.getD 37 undef = pz4, tm.getD 38 undef = pz5, tm.getD 39 undef = pz6, tm.getD 40 undef = pz7 at htm
         clear h41
         subst htm
         have q0z := (hBz.cell (p := ⟨A5, off5 + c * 5, none⟩) hA5).trans q0
         replace HO := ownA_step HO hBz
         replace BP := BP.step hBz
         replace BL := BL.step hBz
         replace BH := BH.step hBz
         replace HB := HB.trans (hBz.mono HB.size)
         have hle : (idL Q ((List.range c).filter (hitW Q wa wb wc wd))).length ≤ 40 := by
           unfold idL
           rw [List.length_map]
           exact Nat.le_trans (List.length_filter_le _ _) (by rw [List.length_range]; omega)
         have hBs2 := HB.size
         clear hBz MB m2 q0 q1 q2 q3 q4
         cases bh with
         | false =>
           rw [if_neg (by decide), List.append_nil] at HFM
           clear q0z
           go_wp2
           go_roundw
           case rel => exact ⟨c + 1, by omega, by go_num, by rw [HFM.out]; exact HO, BP, BL, BH, HB⟩
           case measure => simp [intOf]; omega
         | true =>
           rw [if_pos rfl] at HFM
           have m2 := BP.c 2 rfl
           have HBP : Hid (Blk Wz w.heap.size [.int .i64 m, .int .i64 d, .slice (some ⟨A5, off5, none⟩) n cap, .slice bo Q.N bcap] ∧ Blk Wz (w.heap.size + 1) [.int .i64 wa, .int .i64 wb] ∧ Blk Wz (w.heap.size + 1 + 1) [.int .i64 wc, .int .i64 wd]) := ⟨BP, BL, BH⟩
           clear BP BL BH
           go_wp2_with (at_builtin; refine wpList_append_own _ rfl _ _ 29 rfl (w.heap.size + 3) 2 i0 (.int .i64 0) 1 8 Try.underlying29 hi hz0 hz1 hz2 rfl (by decide) _ _ _ rfl (ownA_step HO ((Below.refl _ _).alloc (Nat.le_refl _) _)) ⟨Wz.heap.size, 0, none⟩ 1 1 [.int .i64 (Q.I c)] rfl rfl (cell_one_new _ _ _) (one_cell _ _) (by unfold maxLen; omega) (by omega) (by have := HBP.out.2.2.lt; simp; omega) ?_)
           intro v9 w9 hown9 hgrow9 _
           have hob : ∀ k, u10.ownBlock = some k → w.heap.size + 3 ≤ k := fun k hk => (HO.lt k hk).1
           have BP9 := ((HBP.out.1).alloc (.cells #[.int .i64 (Q.I c)] 2)).grown hgrow9 (fun e => by have := hob _ e.symm; omega)
           have BL9 := ((HBP.out.2.1).alloc (.cells #[.int .i64 (Q.I c)] 2)).grown hgrow9 (fun e => by have := hob _ e.symm; omega)
           have BH9 := ((HBP.out.2.2).alloc (.cells #[.int .i64 (Q.I c)] 2)).grown hgrow9 (fun e => by have := hob _ e.symm; omega)
           have HB9 : Below w.heap.size w w9 := (HB.alloc HB.size _).grown hgrow9 (by simp; omega) (fun k hk => by have := hob k hk; omega)
           have HN9 : Hid (w9.ownsRow (w.heap.size + 3) 2 1 v9 (idL Q ((List.range (c + 1)).filter (hitW Q wa wb wc wd))).length ((idL Q ((List.range (c + 1)).filter (hitW Q wa wb wc wd))).map (Value.int .i64))) := by
             show World.ownsRow _ _ _ _ _ _ _
             rw [HFM.out]
             simpa using hown9
           clear HO HB hown9 hgrow9 m2 q0z hob
           go_wp2
           go_roundw
           case rel => exact ⟨c + 1, by omega, by go_num, HN9.out, BP9, BL9, BH9, HB9⟩
           case measure => simp [intOf]; omega
       · obtain rfl : c = n := by omega
         have HF : Hid (wr.ownsRow w.heap.size 2 1 u10 (qwL Q m d wa wb wc wd).length ((qwL Q m d wa wb wc wd).map (Value.int .i64))) := by
           have e : qwL Q m d wa wb wc wd = idL Q ((List.range c).filter (hitW Q wa wb wc wd)) := by rw [HQL.out, ← HN.out]; rfl
           show World.ownsRow _ _ _ _ _ _ _
           rw [e]
           exact ownQ_mono2 HO (by omega)
         have m2 := BP.c 2 rfl
         clear HO BP BL BH
         go_wp2
         go_ret2
         exact ⟨u10, by rw [HQ.out]; rfl, HF.out, HB⟩
set_option maxRecDepth 100000 in
set_option maxHeartbeats 8000000 in
theorem implQuadWindow_any (w : World) (Q : QD) (ao bo : Option Addr) (cap bcap A off : Nat) (so : Nat → Option Addr × Nat) (m d : Int) (hm : Q.m ≤ 1048576) (hN : Q.N ≤ 1048576) (hcap : Q.N ≤ bcap) (hL : ∀ i, i < Q.N → Q.L i ≤ 1048576) (hbo : 0 < Q.N → bo = some ⟨A, off, none⟩) (hao : ∀ A o sp, ao = some ⟨A, o, sp⟩ → A < w.heap.size) (hS : ItIn Q w ao (List.range Q.m)) (hBl : BlIn Q w A off so) (wa wb wc wd : Int) : Calls Try.prog 8 #[.agg #[.int .i64 m, .int .i64 d, .slice ao Q.m cap, .slice bo Q.N bcap], Sp wa wb, Sp wc wd] w (QwP Q m d wa wb wc wd w) := by
 have BP := ((Blk.new w [.int .i64 m, .int .i64 d, .slice ao Q.m cap, .slice bo Q.N bcap] 35 rfl).alloc (.cells #[.int .i64 wa, .int .i64 wb] 37)).alloc (.cells #[.int .i64 wc, .int .i64 wd] 37)
 have BL := (Blk.new (w.alloc (.cells #[.int .i64 m, .int .i64 d, .slice ao Q.m cap, .slice bo Q.N bcap] 35)) [.int .i64 wa, .int .i64 wb] 37 rfl).alloc (.cells #[.int .i64 wc, .int .i64 wd] 37)
 have BH := Blk.new ((w.alloc (.cells #[.int .i64 m, .int .i64 d, .slice ao Q.m cap, .slice bo Q.N bcap] 35)).alloc (.cells #[.int .i64 wa, .int .i64 wb] 37)) [.int .i64 wc, .int .i64 wd] 37 rfl
 simp only [World.size_alloc] at BL BH
 have HB : Below w.heap.size w (((w.alloc (.cells #[.int .i64 m, .int .i64 d, .slice ao Q.m cap, .slice bo Q.N bcap] 35)).alloc (.cells #[.int .i64 wa, .int .i64 wb] 37)).alloc (.cells #[.int .i64 wc, .int .i64 wd] 37)) := (((Below.refl _ w).alloc (Nat.le_refl _) _).alloc (by simp) _).alloc (by simp; omega) _
 have C := quadOf_any (((w.alloc (.cells #[.int .i64 m, .int .i64 d, .slice ao Q.m cap, .slice bo Q.N bcap] 35)).alloc (.cells #[.int .i64 wa, .int .i64 wb] 37)).alloc (.cells #[.int .i64 wc, .int .i64 wd] 37)) Q ao bo cap bcap A off so m d hm hN hcap hL hbo (fun A o sp e => Nat.lt_of_lt_of_le (hao A o sp e) HB.size) (hS.step HB) (hBl.below HB)
 clear hS hBl hao
 go_enter Try.func8, Try.ntmps8
 go_upto_region 1 with fail
 generalize (((w.alloc (.cells #[.int .i64 m, .int .i64 d, .slice ao Q.m cap, .slice bo Q.N bcap] 35)).alloc (.cells #[.int .i64 wa, .int .i64 wb] 37)).alloc (.cells #[.int .i64 wc, .int .i64 wd] 37)) = W1 at *
 have c0 := BP.c 0 rfl; have c1 := BP.c 1 rfl; have c2 := BP.c 2 rfl; have c3 := BP.c 3 rfl
 go_wp2_with fail
 refine C.mono ?_
 rintro r w1 ⟨pv, rfl, hB1, hT⟩
 replace BL := BL.step hB1
 replace BH := BH.step hB1
 replace HB := HB.trans (hB1.mono HB.size)
 clear C c0 c1 c2 c3 hB1 BP
 cases hq : qOk Q m d with
 | false =>
   have HQ : Hid (qwB Q m d wa wb wc wd = false) := by show _ = _; unfold qwB; rw [hq]; rfl
   clear hq BL BH hT
   go_wp2
   go_ret2
   exact qw_no HQ.out HB
 | true =>
   obtain ⟨gq, io, ic, gr, rfl, Bq, hIt, _, hST, _, _⟩ := hT hq
   have hPT := hST.toP
   clear hST hT
   have l0 := BL.c 0 rfl; have l1 := BL.c 1 rfl; have h0 := BH.c 0 rfl; have h1 := BH.c 1 rfl
   go_wp2_with fail
   refine (isBox_any wa wb wc wd _).mono ?_
   rintro e w2 ⟨rfl, hB2⟩
   replace BL := BL.step hB2
   replace BH := BH.step hB2
   replace Bq := Bq.step hB2
   replace hIt := hIt.step hB2
   replace hPT := PTr.step hB2 hPT
   replace HB := HB.trans (hB2.mono HB.size)
   clear hB2 l0 l1 h0 h1
   cases hbx : boxOk wa wb wc wd with
   | false =>
     have HQ : Hid (qwB Q m d wa wb wc wd = false) := by show _ = _; unfold qwB; rw [hbx, Bool.and_false]
     clear hq hbx BL BH Bq hIt hPT
     go_wp2
     go_ret2
     exact qw_no HQ.out HB
   | true =>
     have HQ : Hid (qwB Q m d wa wb wc wd = true) := by show _ = _; unfold qwB; rw [hbx, hq]; rfl
     have HQL : Hid (qwL Q m d wa wb wc wd = winQ Q wa wb wc wd) := if_pos HQ.out
     obtain ⟨_, ⟨_, hd8⟩, hits, hrt⟩ := qOk_all hq
     have hm40 : Q.m ≤ 40 := (of_decide_eq_true hits).1
     have hsm := (tr_small hq).2.1
     obtain ⟨⟨ia, ib, ic6, id⟩, ⟨b1, b2, b3, b4⟩, b5, b6⟩ := box_in6 hbx
     have HRI : Hid (riseI Q ∧ ∀ i, i < Q.m → (Q.S i).1 ≤ (Q.S i).2.2.1) := ⟨rise_of hits, fun i hi => seg_left (of_decide_eq_true ((of_decide_eq_true hits).2 i hi)).2.1⟩
     have HEV : Hid (evT (trQ Q d.toNat 0 (-1048576) (-1048576) 2097152) 2097152) := ev_root Q hd8
     have H6 := its6_of hits
     have hbnd : Q.m * nlT (trQ Q d.toNat 0 (-1048576) (-1048576) 2097152) ≤ 40 * 65536 := Nat.mul_le_mul hm40 hsm
     obtain ⟨t, ht⟩ : ∃ t, (trQ Q d.toNat 0 (-1048576) (-1048576) 2097152) = t := ⟨_, rfl⟩
     rw [ht] at hrt hPT HEV hbnd
     obtain ⟨LL, hLL⟩ : ∃ LL, idL Q (wnT Q wa wb wc wd t (-1048576) (-1048576) 2097152) = LL := ⟨_, rfl⟩
     have HLL : Hid (idL Q (wnT Q wa wb wc wd t (-1048576) (-1048576) 2097152) = LL) := hLL
     have hln : LL.length ≤ 4000000 := by
       have h := wnT_len Q wa wb wc wd t (-1048576) (-1048576) 2097152
       rw [← hLL]
       unfold idL
       rw [List.length_map]
       omega
     have CW : ∀ W2 : World, Below w2.heap.size w2 W2 → Calls Try.prog 23 #[.pointer (some ⟨gq, 0, none⟩), .pointer (some ⟨gr, 0, none⟩), Sp wa wb, Sp wc wd, .slice none 0 0] W2 (OwnP w2.heap.size LL W2) := fun W2 hB => by
       refine (within_any Q gq ic io m d _ wa wb wc wd hm40 HRI.out.1 H6 ia ib ic6 id W2 (Bq.step hB) (hIt.step hB) t _ (-1048576) (-1048576) 2097152 0 gr [] (.slice none 0 0) W2 root_sq hrt (PTr.step hB hPT) (by simp; omega) (Below.refl _ _) (World.ownsRow_nil _ _ _ _)).mono ?_
       rintro r w' ⟨v', rfl, hO, hR⟩
       rw [List.nil_append, hLL] at hO
       exact ⟨v', rfl, ownQ_mono2 hO hB.size, ⟨hR.1.os, hR.1.tape, hR.1.output, hR.1.size, fun k hk => hR.1.block k hk (fun e => by cases e)⟩⟩
     clear hq hits hbx hrt H6 hIt hPT hbnd hsm ht hLL
     go_upto_region 4 with fail
     refine qwi4 (gq := gq) (gr := gr) (LL := LL) (wa := wa) (wb := wb) (wc := wc) (wd := wd) (Lb := w.heap.size + 1) (Hb := w.heap.size + 1 + 1) CW rfl rfl rfl (Bq.c 3 rfl) Bq.lt (BL.c 0 rfl) BL.lt (BL.c 1 rfl) BL.lt (BH.c 0 rfl) BH.lt (BH.c 1 rfl) BH.lt rfl ?_
     rintro ⟨tm, df⟩ Wz hz hdf hoff h10 hBz
     simp only at hz hdf hoff h10
     change Wz.ownsRow w2.heap.size 2 1 (tm.getD 10 undef) LL.length (LL.map (Value.int .i64)) at h10
     subst hdf
     generalize hv10 : tm.getD 10 undef = v10 at h10
     have htm := tmps_fold [24, 25, 26, 27, 28, 29, 30, 31, 10] tm _ hz hoff
     simp only [List.foldl, List.setIfInBounds_toArray, List.set_cons_zero, List.set_cons_succ, hv10] at htm
     clear hz hoff
     generalize tm.getD 24 undef = pz0, tm.getD 25 undef = pz1, tm.getD 26 undef = pz2, tm.getD 27 undef = pz3, tm.getD 28 undef = pz4, tm.getD 29 undef = pz5, tm.getD 30 undef = pz6, tm.getD 31 undef = pz7 at htm
     clear hv10
     subst htm
     have hBzs := hBz.size
     have CS := sort64_any w2.heap.size v10 LL w2 Wz hln h10 hBz hBzs
     clear CW BL BH Bq h10 hBz
     go_wp2_with fail
     refine CS.mono ?_
     rintro r w5 ⟨rfl, zs, hz1, hz2, hz3, HO5, HB5⟩
     have CC := comp64_any w2.heap.size v10 zs w2 w5 (by omega) hz1 HO5 HB5
     have HZ : Hid (∀ z, z ∈ zs ↔ z ∈ LL) := hz2
     clear CS HO5 HB5 hz1 hz2 hz3
     go_wp2_with fail
     refine CC.mono ?_
     rintro r w6 ⟨v6, cs, rfl, hc1, hc2, HO6, HB6⟩
     have he : cs = winQ Q wa wb wc wd := win_same HRI.out.1 HRI.out.2 HEV.out b1 b2 b3 b4 b5 b6 hc1 (fun z => by rw [hc2, HZ.out, HLL.out])
     have HF : Hid (w6.ownsRow w.heap.size 2 1 v6 (qwL Q m d wa wb wc wd).length ((qwL Q m d wa wb wc wd).map (Value.int .i64))) := by
       show World.ownsRow _ _ _ _ _ _ _
       rw [HQL.out, ← he]
       exact ownQ_mono2 HO6 HB.size
     have HBF := HB.trans (HB6.mono HB.size)
     clear CC HO6 HB6 hc1 hc2 he HB
     go_wp2
     go_ret2
     exact ⟨v6, by rw [HQ.out]; rfl, HF.out, HBF⟩
inductive AT where
 | leaf (g : Nat)
 | node (g A kc : Nat) (K : Nat → AT)
structure Frm (ok : Nat → Prop) (w w' : World) : Prop where
 os : w'.os = w.os
 tape : w'.tape = w.tape
 output : w'.output = w.output
 size : w.heap.size ≤ w'.heap.size
 block : ∀ b, b < w.heap.size → ¬ ok b → w'.heap[b]? = w.heap[b]?
theorem Frm.refl (ok : Nat → Prop) (w : World) : Frm ok w w := ⟨rfl, rfl, rfl, Nat.le_refl _, fun _ _ _ => rfl⟩
theorem Frm.blk {ok : Nat → Prop} {w w' : World} {g : Nat} {vs : List Value} (h : Frm ok w w') (B : Blk w g vs) (hn : ¬ ok g) : Blk w' g vs := B.keep h.size (h.block g B.lt hn)
theorem Frm.below {ok : Nat → Prop} {w w' : World} (h : Frm ok w w') {B : Nat} (hB : B ≤ w.heap.size) (hok : ∀ b, ok b → B ≤ b) : Below B w w' :=
 ⟨h.os, h.tape, h.output, h.size, fun b hb => h.block b (by omega) (fun e => by have := hok b e; omega)⟩
def RwN (w : World) (T : TypeId) (k : Nat) (v : Value) (n : Nat) (c : Nat → Value) : Prop := (v = .slice none 0 0 ∧ n = 0) ∨ ∃ g cap f, v = .slice (some ⟨g, 0, none⟩) n cap ∧ n ≤ cap ∧ w.rowIs g T (cap * k) f ∧ ∀ i, i < n * k → f i = c i
theorem RwN.heap {w w' : World} {T : TypeId} {k : Nat} {v : Value} {n : Nat} {c : Nat → Value} (h : RwN w T k v n c) (hh : ∀ b, v.ownBlock = some b → w'.heap[b]? = w.heap[b]?) : RwN w' T k v n c := by
 rcases h with h | ⟨g, cap, f, h1, h2, h3, h4⟩
 · exact .inl h
 · exact .inr ⟨g, cap, f, h1, h2, h3.of_block (hh g (by subst h1; rfl)), h4⟩
theorem RwN.lt {w : World} {T : TypeId} {k : Nat} {v : Value} {n : Nat} {c : Nat → Value} (h : RwN w T k v n c) {b : Nat} (hb : v.ownBlock = some b) : b < w.heap.size := by
 rcases h with ⟨h, _⟩ | ⟨g, cap, f, h1, h2, h3, h4⟩
 · subst h; cases hb
 · subst h1; cases hb; exact h3.lt
theorem RwN.congr {w : World} {T : TypeId} {k : Nat} {v : Value} {n : Nat} {c c' : Nat → Value} (h : RwN w T k v n c) (hc : ∀ i, i < n * k → c i = c' i) : RwN w T k v n c' := by
 rcases h with h | ⟨g, cap, f, h1, h2, h3, h4⟩
 · exact .inl h
 · exact .inr ⟨g, cap, f, h1, h2, h3, fun i hi => (h4 i hi).trans (hc i hi)⟩
theorem RwN.row {w : World} {T : TypeId} {k g n : Nat} {f : Nat → Value} (h : w.rowIs g T (n * k) f) : RwN w T k (.slice (some ⟨g, 0, none⟩) n n) n f := .inr ⟨g, n, f, rfl, Nat.le_refl _, h, fun _ _ => rfl⟩
theorem RwN.slice {w : World} {T : TypeId} {k : Nat} {v : Value} {n : Nat} {c : Nat → Value} (h : RwN w T k v n c) : ∃ ao cap, v = .slice ao n cap := by
 rcases h with ⟨h, h0⟩ | ⟨g, cap, f, h1, _⟩
 · exact ⟨none, 0, by rw [h, h0]⟩
 · exact ⟨_, _, h1⟩
def nuK (K i : Nat) : Value := .int .i64 ((K : Int) + (i : Int))
set_option maxRecDepth 100000 in
set_option maxHeartbeats 2000000 in
theorem markNoQ_any (v : Value) (m K : Nat) (c : Nat → Value) (hm : m ≤ 1048576) (hK : K ≤ 1152921504606846976) (w : World) (hO : RwN w 2 1 v m c) : Calls Try.prog 12 #[v, .int .i64 (K : Int)] w (fun r w' => r = .returned (.int .i64 ((K : Int) + (m : Int))) ∧ RwN w' 2 1 v m (nuK K) ∧ w.grownBy w' v.ownBlock) := by
 have hKI : (K : Int) ≤ 1152921504606846976 := by omega
 rcases hO with ⟨rfl, rfl⟩ | ⟨g, cap, f, rfl, hc, R, hf⟩
 · go_enter Try.func12, Try.ntmps12
   go_wp2_with fail
   go_loopw [1, 5] (fun o i wr => o = .int .i64 (K : Int) ∧ i = .int .i64 0 ∧ wr = w) (fun _ i _ => 0)
   case atStart => exact ⟨rfl, rfl, rfl⟩
   case round =>
     obtain ⟨rfl, rfl, rfl⟩ := hrel
     go_wp2
     go_ret
     exact ⟨by simp, .inl ⟨rfl, rfl⟩, rfl, rfl, rfl, Nat.le_refl _, fun _ _ _ => rfl⟩
 · have HR : Hid (w.rowIs g 2 (cap * 1) f) := R
   clear R hf
   have hnI : (m : Int) ≤ 1048576 := by omega
   go_enter Try.func12, Try.ntmps12
   go_wp2_with fail
   go_loopw [1, 5] (fun o i wr => ∃ c : Nat, c ≤ m ∧ o = .int .i64 ((K : Int) + (c : Int)) ∧ i = .int .i64 c ∧ (∃ f, wr.rowIs g 2 (cap * 1) f ∧ ∀ i, i < c → f i = nuK K i) ∧ w.grownBy wr (some g)) (fun _ i _ => m - (intOf i).toNat)
   case atStart => exact ⟨0, by omega, by simp, rfl, ⟨f, HR.out, fun i hi => by omega⟩, rfl, rfl, rfl, Nat.le_refl _, fun _ _ _ => rfl⟩
   case round =>
     obtain ⟨c, hcn, rfl, rfl, ⟨f', R, hd⟩, KB⟩ := hrel
     by_cases hlt : c < m
     · have hcI : (c : Int) < m := by omega
       have o0 := R.cell (i := c) (by omega)
       have f0 := R.frozen c
       have RN : Hid (∃ f, (wr.setCell ⟨g, c, none⟩ (.int .i64 ((K : Int) + (c : Int)))).rowIs g 2 (cap * 1) f ∧ ∀ i, i < c + 1 → f i = nuK K i) := ⟨_, R.set c (.int .i64 ((K : Int) + (c : Int))), fun i hi => by
         by_cases e : i = c
         · subst e; rw [if_pos rfl]; rfl
         · rw [if_neg e]; exact hd i (by omega)⟩
       have KN : w.grownBy (wr.setCell ⟨g, c, none⟩ (.int .i64 ((K : Int) + (c : Int)))) (some g) := grown_trans KB (grown_set (Below.refl _ _) c _)
       clear R KB hd
       go_wp2
       go_roundw
       case rel => exact ⟨c + 1, by omega, by go_num, by go_num, RN.out, KN⟩
       case measure => simp [intOf]; omega
     · obtain rfl : c = m := by omega
       have HD : Hid (∀ i, i < c → f' i = nuK K i) := hd
       clear hd
       go_wp2
       go_ret
       exact ⟨rfl, .inr ⟨g, cap, f', rfl, hc, R, fun i hi => HD.out i (by omega)⟩, KB⟩
theorem five_set {w : World} {g n c : Nat} {T : TypeId} {f : Nat → Value} (R : w.rowIs g T n f) (v0 v1 v2 v3 v4 : Value) : ∃ f2, ((((((w.setCell ⟨g, c * 5, none⟩ (v0)).setCell ⟨g, c * 5 + 1, none⟩ (v1)).setCell ⟨g, c * 5 + 2, none⟩ (v2)).setCell ⟨g, c * 5 + 3, none⟩ (v3)).setCell ⟨g, c * 5 + 4, none⟩ (v4))).rowIs g T n f2 ∧ (∀ i, i < c * 5 → f2 i = f i) ∧ f2 (c * 5) = v0 ∧ f2 (c * 5 + 1) = v1 ∧ f2 (c * 5 + 2) = v2 ∧ f2 (c * 5 + 3) = v3 ∧ f2 (c * 5 + 4) = v4 ∧ ∀ i, c * 5 + 5 ≤ i → f2 i = f i := by
 refine ⟨_, ((((R.set (c * 5) v0).set (c * 5 + 1) v1).set (c * 5 + 2) v2).set (c * 5 + 3) v3).set (c * 5 + 4) v4, fun i hi => ?_, ?_, ?_, ?_, ?_, ?_, fun i hi => ?_⟩
 · rw [if_neg (by omega), if_neg (by omega), if_neg (by omega), if_neg (by omega), if_neg (by omega)]
 · rw [if_neg (by omega), if_neg (by omega), if_neg (by omega), if_neg (by omega), if_pos rfl]
 · rw [if_neg (by omega), if_neg (by omega), if_neg (by omega), if_pos rfl]
 · rw [if_neg (by omega), if_neg (by omega), if_pos rfl]
 · rw [if_neg (by omega), if_pos rfl]
 · rw [if_pos rfl]
 · rw [if_neg (by omega), if_neg (by omega), if_neg (by omega), if_neg (by omega), if_neg (by omega)]
theorem grown_five {w : World} {g c : Nat} (v0 v1 v2 v3 v4 : Value) : w.grownBy (((((w.setCell ⟨g, c * 5, none⟩ (v0)).setCell ⟨g, c * 5 + 1, none⟩ (v1)).setCell ⟨g, c * 5 + 2, none⟩ (v2)).setCell ⟨g, c * 5 + 3, none⟩ (v3)).setCell ⟨g, c * 5 + 4, none⟩ (v4)) (some g) :=
 grown_trans (grown_trans (grown_trans (grown_trans (grown_set (Below.refl _ _) _ v0) (grown_set (Below.refl _ _) _ v1)) (grown_set (Below.refl _ _) _ v2)) (grown_set (Below.refl _ _) _ v3)) (grown_set (Below.refl _ _) _ v4)
set_option maxRecDepth 100000 in
set_option maxHeartbeats 8000000 in
theorem markItQ_any (v : Value) (m K : Nat) (c : Nat → Value) (hm : m ≤ 1048576) (hK : K ≤ 4294967296) (w : World) (hO : RwN w 56 5 v m c) : Calls Try.prog 28 #[v, .int .i64 (K : Int)] w (fun r w' => r = .returned (.int .i64 ((K + m * 5 : Nat) : Int)) ∧ RwN w' 56 5 v m (nuK K) ∧ w.grownBy w' v.ownBlock) := by
 have hKI : (K : Int) ≤ 4294967296 := by omega
 rcases hO with ⟨rfl, rfl⟩ | ⟨g, cap, f, rfl, hc, R, hf⟩
 · go_enter Try.func28, Try.ntmps28
   go_wp2_with fail
   go_loopw [1, 5] (fun o i wr => o = .int .i64 (K : Int) ∧ i = .int .i64 0 ∧ wr = w) (fun _ i _ => 0)
   case atStart => exact ⟨rfl, rfl, rfl⟩
   case round =>
     obtain ⟨rfl, rfl, rfl⟩ := hrel
     go_wp2
     go_ret
     exact ⟨by simp, .inl ⟨rfl, rfl⟩, rfl, rfl, rfl, Nat.le_refl _, fun _ _ _ => rfl⟩
 · have HR : Hid (w.rowIs g 56 (cap * 5) f) := R
   clear R hf
   have hnI : (m : Int) ≤ 1048576 := by omega
   go_enter Try.func28, Try.ntmps28
   go_wp2_with fail
   go_loopw [1, 5] (fun o i wr => ∃ c kk : Nat, c ≤ m ∧ o = .int .i64 (kk : Int) ∧ K + c * 5 = kk ∧ i = .int .i64 c ∧ (∃ f, wr.rowIs g 56 (cap * 5) f ∧ ∀ i, i < c * 5 → f i = nuK K i) ∧ w.grownBy wr (some g)) (fun _ i _ => m - (intOf i).toNat)
   case atStart => exact ⟨0, K, by omega, rfl, by omega, rfl, ⟨f, HR.out, fun i hi => by omega⟩, rfl, rfl, rfl, Nat.le_refl _, fun _ _ _ => rfl⟩
   case round =>
     obtain ⟨c, kk, hcn, rfl, hkk, rfl, ⟨f', R, hd⟩, KB⟩ := hrel
     have HKK : Hid (K + c * 5 = kk) := hkk
     have hkI : (kk : Int) ≤ 4300210176 := by omega
     clear hkk
     by_cases hlt : c < m
     · have hcI : (c : Int) < m := by omega
       have o0 := R.cell (i := c * 5) (by omega); have f0 := R.frozen (c * 5); have o1 := R.cell (i := c * 5 + 1) (by omega); have f1 := R.frozen (c * 5 + 1); have o2 := R.cell (i := c * 5 + 2) (by omega); have f2 := R.frozen (c * 5 + 2); have o3 := R.cell (i := c * 5 + 3) (by omega); have f3 := R.frozen (c * 5 + 3); have o4 := R.cell (i := c * 5 + 4) (by omega); have f4 := R.frozen (c * 5 + 4)
       have RN : Hid (∃ f, ((((((wr.setCell ⟨g, c * 5, none⟩ (.int .i64 ((kk : Int)))).setCell ⟨g, c * 5 + 1, none⟩ (.int .i64 ((kk : Int) + 1))).setCell ⟨g, c * 5 + 2, none⟩ (.int .i64 ((kk : Int) + 1 + 1))).setCell ⟨g, c * 5 + 3, none⟩ (.int .i64 ((kk : Int) + 1 + 1 + 1))).setCell ⟨g, c * 5 + 4, none⟩ (.int .i64 ((kk : Int) + 1 + 1 + 1 + 1)))).rowIs g 56 (cap * 5) f ∧ ∀ i, i < (c + 1) * 5 → f i = nuK K i) := by
         obtain ⟨f2, r0, r1, r2, r3, r4, r5, r6, _⟩ := five_set (c := c) R (.int .i64 ((kk : Int))) (.int .i64 ((kk : Int) + 1)) (.int .i64 ((kk : Int) + 1 + 1)) (.int .i64 ((kk : Int) + 1 + 1 + 1)) (.int .i64 ((kk : Int) + 1 + 1 + 1 + 1))
         have hk9 := HKK.out
         refine ⟨f2, r0, fun i hi => ?_⟩
         rcases (show i < c * 5 ∨ i = c * 5 ∨ i = c * 5 + 1 ∨ i = c * 5 + 2 ∨ i = c * 5 + 3 ∨ i = c * 5 + 4 by omega) with e | e | e | e | e | e
         · rw [r1 i e]; exact hd i e
         all_goals
           subst e
           first | rw [r2] | rw [r3] | rw [r4] | rw [r5] | rw [r6]
           unfold nuK
           congr 1
           omega
       have KN : w.grownBy (((((wr.setCell ⟨g, c * 5, none⟩ (.int .i64 ((kk : Int)))).setCell ⟨g, c * 5 + 1, none⟩ (.int .i64 ((kk : Int) + 1))).setCell ⟨g, c * 5 + 2, none⟩ (.int .i64 ((kk : Int) + 1 + 1))).setCell ⟨g, c * 5 + 3, none⟩ (.int .i64 ((kk : Int) + 1 + 1 + 1))).setCell ⟨g, c * 5 + 4, none⟩ (.int .i64 ((kk : Int) + 1 + 1 + 1 + 1))) (some g) := grown_trans KB (grown_five _ _ _ _ _)
       clear R KB hd
       go_wp2
       go_roundw
       case rel => exact ⟨c + 1, kk + 5, by omega, by go_num, by have := HKK.out; omega, by go_num, RN.out, KN⟩
       case measure => simp [intOf]; omega
     · obtain rfl : c = m := by omega
       have HD : Hid (∀ i, i < c * 5 → f' i = nuK K i) := hd
       clear hd
       go_wp2
       go_ret
       exact ⟨congrArg (fun z : Nat => Ending.returned (.int .i64 (z : Int))) HKK.out.symm, .inr ⟨g, cap, f', rfl, hc, R, HD.out⟩, KB⟩
def mkB (K : Nat) (L : Nat → Nat) : Nat → Nat
 | 0 => K
 | c + 1 => mkB K L c + 4 + L c
def flB (k : Nat) : Bool := decide ((k + 3) % 3 = 0)
def bkX (K : Nat) (L : Nat → Nat) (k : Nat) : Value := if k % 5 = 3 then .bool (flB (mkB K L (k / 5))) else .int .i64 ((mkB K L (k / 5) : Int) + ((k % 5 : Nat) : Int))
def bkC (x : Nat → Value) (s : Nat → Value) (k : Nat) : Value := if k % 5 = 4 then s (k / 5) else x k
theorem bkC_at (x s : Nat → Value) (c j : Nat) (hj : j < 4) : bkC x s (c * 5 + j) = x (c * 5 + j) := by unfold bkC; rw [if_neg (by omega)]
theorem bkC_4 (x s : Nat → Value) (c : Nat) : bkC x s (c * 5 + 4) = s c := by unfold bkC; rw [if_pos (by omega), show (c * 5 + 4) / 5 = c by omega]
theorem bkX_at (K : Nat) (L : Nat → Nat) (c j : Nat) (hj : j < 3) : bkX K L (c * 5 + j) = .int .i64 ((mkB K L c : Int) + (j : Int)) := by unfold bkX; rw [if_neg (by omega), show (c * 5 + j) / 5 = c by omega, show (c * 5 + j) % 5 = j by omega]
theorem bkX_3 (K : Nat) (L : Nat → Nat) (c : Nat) : bkX K L (c * 5 + 3) = .bool (flB (mkB K L c)) := by unfold bkX; rw [if_pos (by omega), show (c * 5 + 3) / 5 = c by omega]
theorem mkB_le {K n : Nat} {L : Nat → Nat} (hL : ∀ i, i < n → L i ≤ 1048576) : ∀ c, c ≤ n → mkB K L c ≤ K + c * 1048580
 | 0, _ => by simp [mkB]
 | c + 1, h => by have := mkB_le (K := K) hL c (by omega); have := hL c (by omega); simp only [mkB]; omega
def mqE (K : Nat) (L : Nat → Nat) (i : Nat) : Nat → Value := nuK (mkB K L i + 4)
structure BkN (w : World) (v : Value) (n : Nat) (x s : Nat → Value) (L : Nat → Nat) (E : Nat → Nat → Value) : Prop where
 row : RwN w 89 5 v n (bkC x s)
 ids : ∀ i, i < n → RwN w 2 1 (s i) (L i) (E i)
 d1 : ∀ i b, i < n → (s i).ownBlock = some b → v.ownBlock ≠ some b
 d2 : ∀ i j b, i < n → j < n → i ≠ j → (s i).ownBlock = some b → (s j).ownBlock ≠ some b
def bkN (v : Value) (n : Nat) (s : Nat → Value) (b : Nat) : Prop := v.ownBlock = some b ∨ ∃ i, i < n ∧ (s i).ownBlock = some b
theorem BkN.frm {ok : Nat → Prop} {w w' : World} {v : Value} {n : Nat} {x s : Nat → Value} {L : Nat → Nat} {E : Nat → Nat → Value} (h : BkN w v n x s L E) (hF : Frm ok w w') (hd : ∀ b, bkN v n s b → ¬ ok b) : BkN w' v n x s L E :=
 ⟨h.row.heap (fun b e => hF.block b (h.row.lt e) (hd b (.inl e))), fun i hi => (h.ids i hi).heap (fun b e => hF.block b ((h.ids i hi).lt e) (hd b (.inr ⟨i, hi, e⟩))), h.d1, h.d2⟩
theorem BkN.step {w w' : World} {v : Value} {n : Nat} {x s : Nat → Value} {L : Nat → Nat} {E : Nat → Nat → Value} (h : BkN w v n x s L E) (hB : Below w.heap.size w w') : BkN w' v n x s L E :=
 ⟨h.row.heap (fun b e => hB.block b (h.row.lt e)), fun i hi => (h.ids i hi).heap (fun b e => hB.block b ((h.ids i hi).lt e)), h.d1, h.d2⟩
theorem four_set {w : World} {g n c : Nat} {T : TypeId} {f : Nat → Value} (R : w.rowIs g T n f) (v0 v1 v2 v3 : Value) : ∃ f2, (((((w.setCell ⟨g, c * 5, none⟩ (v0)).setCell ⟨g, c * 5 + 1, none⟩ (v1)).setCell ⟨g, c * 5 + 2, none⟩ (v2)).setCell ⟨g, c * 5 + 3, none⟩ (v3))).rowIs g T n f2 ∧ (∀ i, i < c * 5 → f2 i = f i) ∧ f2 (c * 5) = v0 ∧ f2 (c * 5 + 1) = v1 ∧ f2 (c * 5 + 2) = v2 ∧ f2 (c * 5 + 3) = v3 ∧ ∀ i, c * 5 + 4 ≤ i → f2 i = f i := by
 refine ⟨_, (((R.set (c * 5) v0).set (c * 5 + 1) v1).set (c * 5 + 2) v2).set (c * 5 + 3) v3, fun i hi => ?_, ?_, ?_, ?_, ?_, fun i hi => ?_⟩
 · rw [if_neg (by omega), if_neg (by omega), if_neg (by omega), if_neg (by omega)]
 · rw [if_neg (by omega), if_neg (by omega), if_neg (by omega), if_pos rfl]
 · rw [if_neg (by omega), if_neg (by omega), if_pos rfl]
 · rw [if_neg (by omega), if_pos rfl]
 · rw [if_pos rfl]
 · rw [if_neg (by omega), if_neg (by omega), if_neg (by omega), if_neg (by omega)]
theorem grown_four {w : World} {g c : Nat} (v0 v1 v2 v3 : Value) : w.grownBy ((((w.setCell ⟨g, c * 5, none⟩ (v0)).setCell ⟨g, c * 5 + 1, none⟩ (v1)).setCell ⟨g, c * 5 + 2, none⟩ (v2)).setCell ⟨g, c * 5 + 3, none⟩ (v3)) (some g) :=
 grown_trans (grown_trans (grown_trans (grown_set (Below.refl _ _) _ v0) (grown_set (Below.refl _ _) _ v1)) (grown_set (Below.refl _ _) _ v2)) (grown_set (Below.refl _ _) _ v3)
theorem flB_val (k : Nat) : ((((k : Int) + 1 + 1 + 1).tmod 3) == 0) = flB k := by
 unfold flB
 rw [Int.tmod_eq_emod_of_nonneg (by omega)]
 by_cases h : (k + 3) % 3 = 0
 · rw [decide_eq_true h, beq_iff_eq]; omega
 · rw [decide_eq_false h]
   exact Bool.eq_false_iff.2 (fun e => h (by have := beq_iff_eq.1 e; omega))
theorem Frm.grownO {ok : Nat → Prop} {w w1 w2 : World} {row : Option Nat} (h : Frm ok w w1) (hg : w1.grownBy w2 row) (hp : ∀ b, row = some b → ok b) : Frm ok w w2 :=
 ⟨hg.os.trans h.os, hg.tape.trans h.tape, hg.output.trans h.output, Nat.le_trans h.size hg.size, fun b hb hn => (hg.block b (Nat.lt_of_lt_of_le hb h.size) (fun e => hn (hp b e.symm))).trans (h.block b hb hn)⟩
set_option maxRecDepth 100000 in
set_option maxHeartbeats 16000000 in
theorem markBlQ_any (v : Value) (n K : Nat) (x s : Nat → Value) (L : Nat → Nat) (E : Nat → Nat → Value) (hn : n ≤ 1048576) (hL : ∀ i, i < n → L i ≤ 1048576) (hK : K ≤ 4300210176) (w : World) (hO : BkN w v n x s L E) : Calls Try.prog 29 #[v, .int .i64 (K : Int)] w (fun r w' => r = .returned (.int .i64 (mkB K L n : Int)) ∧ BkN w' v n (bkX K L) s L (mqE K L) ∧ Frm (bkN v n s) w w') := by
 have hKI : (K : Int) ≤ 4300210176 := by omega
 obtain ⟨hrow, hN, d1, d2⟩ := hO
 rcases hrow with ⟨rfl, rfl⟩ | ⟨g, cap, f, rfl, hc, R, hf⟩
 · clear hN d1 d2
   go_enter Try.func29, Try.ntmps29
   go_wp2_with fail
   go_loopw [1, 5] (fun o i wr => o = .int .i64 (K : Int) ∧ i = .int .i64 0 ∧ wr = w) (fun _ i _ => 0)
   case atStart => exact ⟨rfl, rfl, rfl⟩
   case round =>
     obtain ⟨rfl, rfl, rfl⟩ := hrel
     go_wp2
     go_ret
     exact ⟨rfl, ⟨.inl ⟨rfl, rfl⟩, fun i hi => absurd hi (by omega), fun i b hi => absurd hi (by omega), fun i j b hi => absurd hi (by omega)⟩, Frm.refl _ _⟩
 have HR : Hid (w.rowIs g 89 (cap * 5) f ∧ (∀ k, k < n * 5 → f k = bkC x s k) ∧ (∀ i, i < n → RwN w 2 1 (s i) (L i) (E i))) := ⟨R, hf, hN⟩
 have HD : Hid ((∀ i b, i < n → (s i).ownBlock = some b → g ≠ b) ∧ ∀ i j b, i < n → j < n → i ≠ j → (s i).ownBlock = some b → (s j).ownBlock ≠ some b) := ⟨fun i b hi e e2 => d1 i b hi e (by rw [e2]; rfl), d2⟩
 have HL : Hid (∀ i, i < n → L i ≤ 1048576) := hL
 have HK : Hid (∀ c, c ≤ n → mkB K L c ≤ 1103816294400) := fun c hc => by have := mkB_le (K := K) hL c hc; have : c * 1048580 ≤ 1048576 * 1048580 := Nat.mul_le_mul_right _ (by omega); omega
 clear R hf hN d1 d2 hL
 have hnI : (n : Int) ≤ 1048576 := by omega
 go_enter Try.func29, Try.ntmps29
 go_wp2_with fail
 go_loopw [1, 5] (fun o i wr => ∃ (c : Nat) (f : Nat → Value), c ≤ n ∧ o = .int .i64 (mkB K L c : Int) ∧ i = .int .i64 c ∧ wr.rowIs g 89 (cap * 5) f ∧ (∀ k, k < c * 5 → f k = bkC (bkX K L) s k) ∧ (∀ k, c * 5 ≤ k → k < n * 5 → f k = bkC x s k) ∧ (∀ i, i < c → RwN wr 2 1 (s i) (L i) (mqE K L i)) ∧ (∀ i, c ≤ i → i < n → RwN wr 2 1 (s i) (L i) (E i)) ∧ Frm (bkN (.slice (some ⟨g, 0, none⟩) n cap) n s) w wr) (fun _ i _ => n - (intOf i).toNat)
 case atStart => exact ⟨0, f, by omega, rfl, rfl, HR.out.1, fun k hk => absurd hk (by omega), fun k _ hk => HR.out.2.1 k hk, fun i hi => absurd hi (by omega), fun i _ hi => HR.out.2.2 i hi, Frm.refl _ _⟩
 case round =>
   obtain ⟨c, f', hcn, rfl, rfl, R, hd, hd2, hA, hB, HF⟩ := hrel
   have HDD : Hid ((∀ k, k < c * 5 → f' k = bkC (bkX K L) s k) ∧ ∀ k, c * 5 ≤ k → k < n * 5 → f' k = bkC x s k) := ⟨hd, hd2⟩
   have HAB : Hid ((∀ i, i < c → RwN wr 2 1 (s i) (L i) (mqE K L i)) ∧ ∀ i, c ≤ i → i < n → RwN wr 2 1 (s i) (L i) (E i)) := ⟨hA, hB⟩
   have hkb := HK.out c hcn
   obtain ⟨kk, hkk⟩ : ∃ kk, mkB K L c = kk := ⟨_, rfl⟩
   have HKK : Hid (mkB K L c = kk) := hkk
   rw [hkk] at hkb ⊢
   have hkI : (kk : Int) ≤ 1103816294400 := by omega
   clear hkk hd hd2 hA hB
   by_cases hlt : c < n
   · have hcI : (c : Int) < n := by omega
     obtain ⟨so, sc, hs⟩ := (HAB.out.2 c (Nat.le_refl _) hlt).slice
     have HSC : Hid (s c = .slice so (L c) sc) := hs
     have o0 := R.cell (i := c * 5) (by omega); have f0 := R.frozen (c * 5); have o1 := R.cell (i := c * 5 + 1) (by omega); have f1 := R.frozen (c * 5 + 1); have o2 := R.cell (i := c * 5 + 2) (by omega); have f2 := R.frozen (c * 5 + 2); have o3 := R.cell (i := c * 5 + 3) (by omega); have f3 := R.frozen (c * 5 + 3)
     have o4 : wr.cell? ⟨g, c * 5 + 4, none⟩ = some (.slice so (L c) sc) := (R.cell (i := c * 5 + 4) (by omega)).trans (by rw [HDD.out.2 _ (by omega) (by omega), bkC_4, hs])
     obtain ⟨tm, htm⟩ : ∃ tm : Int, ((kk : Int) + 1 + 1 + 1).tmod 3 = tm := ⟨_, rfl⟩
     have hfl : (tm == 0) = flB kk := by rw [← htm]; exact flB_val kk
     have hF4 := four_set (c := c) R (.int .i64 ((kk : Int))) (.int .i64 ((kk : Int) + 1)) (.int .i64 ((kk : Int) + 1 + 1)) (.bool (flB kk))
     have HG4 : wr.grownBy ((((wr.setCell ⟨g, c * 5, none⟩ (.int .i64 ((kk : Int)))).setCell ⟨g, c * 5 + 1, none⟩ (.int .i64 ((kk : Int) + 1))).setCell ⟨g, c * 5 + 2, none⟩ (.int .i64 ((kk : Int) + 1 + 1))).setCell ⟨g, c * 5 + 3, none⟩ (.bool (flB kk))) (some g) := grown_four _ _ _ _
     have hLc := HL.out c hlt
     have NC : RwN ((((wr.setCell ⟨g, c * 5, none⟩ (.int .i64 ((kk : Int)))).setCell ⟨g, c * 5 + 1, none⟩ (.int .i64 ((kk : Int) + 1))).setCell ⟨g, c * 5 + 2, none⟩ (.int .i64 ((kk : Int) + 1 + 1))).setCell ⟨g, c * 5 + 3, none⟩ (.bool (flB kk))) 2 1 (.slice so (L c) sc) (L c) (E c) := by
       have h := HAB.out.2 c (Nat.le_refl _) hlt
       rw [hs] at h
       exact h.heap (fun b e => HG4.block b (h.lt e) (fun e2 => HD.out.1 c b hlt (by rw [hs]; exact e) (Option.some.inj e2).symm))
     have CM := markNoQ_any (.slice so (L c) sc) (L c) (kk + 4) (E c) hLc (by omega) _ NC
     rw [show ((kk + 4 : Nat) : Int) = (kk : Int) + 1 + 1 + 1 + 1 by omega] at CM
     clear NC hs
     go_wp2_with fail
     refine CM.mono ?_
     rintro r w1 ⟨rfl, hN1, hV⟩
     obtain ⟨f2, r0, r1, r2, r3, r4, r5, r6⟩ := hF4
     have hgl := r0.lt
     generalize ((((wr.setCell ⟨g, c * 5, none⟩ (.int .i64 ((kk : Int)))).setCell ⟨g, c * 5 + 1, none⟩ (.int .i64 ((kk : Int) + 1))).setCell ⟨g, c * 5 + 2, none⟩ (.int .i64 ((kk : Int) + 1 + 1))).setCell ⟨g, c * 5 + 3, none⟩ (.bool (flB kk))) = W4 at *
     have hgo : ∀ b, b < wr.heap.size → b ≠ g → (s c).ownBlock ≠ some b → w1.heap[b]? = wr.heap[b]? := fun b hb hne hns => (hV.block b (Nat.lt_of_lt_of_le hb HG4.size) (fun e => hns (by rw [HSC.out]; exact e.symm))).trans (HG4.block b hb (fun e => hne (Option.some.inj e)))
     have HFN : Hid (∃ f3, w1.rowIs g 89 (cap * 5) f3 ∧ (∀ k, k < (c + 1) * 5 → f3 k = bkC (bkX K L) s k) ∧ ∀ k, (c + 1) * 5 ≤ k → k < n * 5 → f3 k = bkC x s k) := by
       have hk9 := HKK.out
       refine ⟨f2, r0.of_block (hV.block g hgl (fun e => HD.out.1 c g hlt (by rw [HSC.out]; exact e.symm) rfl)), fun k hk => ?_, fun k hk hn2 => ?_⟩
       · rcases (show k < c * 5 ∨ k = c * 5 ∨ k = c * 5 + 1 ∨ k = c * 5 + 2 ∨ k = c * 5 + 3 ∨ k = c * 5 + 4 by omega) with e | e | e | e | e | e
         · rw [r1 k e]; exact HDD.out.1 k e
         · subst e; rw [r2, show c * 5 = c * 5 + 0 from rfl, bkC_at _ _ _ 0 (by omega), bkX_at _ _ _ 0 (by omega), hk9]; congr 2
         · subst e; rw [r3, bkC_at _ _ _ 1 (by omega), bkX_at _ _ _ 1 (by omega), hk9]; congr 2
         · subst e; rw [r4, bkC_at _ _ _ 2 (by omega), bkX_at _ _ _ 2 (by omega), hk9]; congr 1
         · subst e; rw [r5, bkC_at _ _ _ 3 (by omega), bkX_3, hk9]
         · subst e; rw [r6 _ (by omega), HDD.out.2 _ (by omega) (by omega), bkC_4, bkC_4]
       · rw [r6 k (by omega)]; exact HDD.out.2 k (by omega) hn2
     have HA2 : Hid (∀ i, i < c + 1 → RwN w1 2 1 (s i) (L i) (mqE K L i)) := fun i hi => by
       by_cases e : i = c
       · subst e
         rw [HSC.out]
         unfold mqE
         rw [HKK.out]
         refine hN1.congr (fun k _ => ?_)
         unfold nuK
         congr 1
       · have p := HAB.out.1 i (by omega)
         exact p.heap fun b hb => hgo b (p.lt hb) (fun e3 => HD.out.1 i b (by omega) hb e3.symm) (HD.out.2 i c b (by omega) hlt e hb)
     have HB2 : Hid (∀ i, c + 1 ≤ i → i < n → RwN w1 2 1 (s i) (L i) (E i)) := fun i hi hi2 => by
       have p := HAB.out.2 i (by omega) hi2
       exact p.heap fun b hb => hgo b (p.lt hb) (fun e3 => HD.out.1 i b hi2 hb e3.symm) (HD.out.2 i c b hi2 hlt (by omega) hb)
     have KN : Frm (bkN (.slice (some ⟨g, 0, none⟩) n cap) n s) w w1 := (HF.grownO HG4 (fun b e => .inl e)).grownO hV (fun b e => .inr ⟨c, hlt, by rw [HSC.out]; exact e⟩)
     have HKN : Hid ((kk : Int) + 1 + 1 + 1 + 1 + (L c : Int) = (mkB K L (c + 1) : Int)) := by
       have := HKK.out
       show _ = ((mkB K L c + 4 + L c : Nat) : Int)
       omega
     have hLI : (L c : Int) ≤ 1048576 := by omega
     clear CM hN1 hV HG4 HF hgo r0 r1 r2 r3 r4 r5 r6 o0 o1 o2 o3 o4 R HAB HDD
     go_wp2
     go_roundw
     case rel =>
       obtain ⟨f3, p1, p2, p3⟩ := HFN.out
       exact ⟨c + 1, f3, by omega, congrArg (Value.int .i64) HKN.out, by go_num, p1, p2, p3, HA2.out, HB2.out, KN⟩
     case measure => simp [intOf]; omega
   · obtain rfl : c = n := by omega
     have HE : Hid (BkN wr (.slice (some ⟨g, 0, none⟩) c cap) c (bkX K L) s L (mqE K L)) := ⟨.inr ⟨g, cap, f', rfl, hc, R, HDD.out.1⟩, HAB.out.1, fun i b hi e e2 => HD.out.1 i b hi e (Option.some.inj e2), HD.out.2⟩
     clear HAB HDD R
     go_wp2
     go_ret
     exact ⟨congrArg (fun z : Nat => Ending.returned (.int .i64 (z : Int))) HKK.out.symm, HE.out, HF⟩
structure QuN (w : World) (iv bv : Value) (n N : Nat) (ci x s : Nat → Value) (L : Nat → Nat) (E : Nat → Nat → Value) : Prop where
 its : RwN w 56 5 iv n ci
 bls : BkN w bv N x s L E
 d : ∀ b, iv.ownBlock = some b → ¬ bkN bv N s b
def quN (iv bv : Value) (N : Nat) (s : Nat → Value) (b : Nat) : Prop := iv.ownBlock = some b ∨ bkN bv N s b
theorem QuN.step {w w' : World} {iv bv : Value} {n N : Nat} {ci x s : Nat → Value} {L : Nat → Nat} {E : Nat → Nat → Value} (h : QuN w iv bv n N ci x s L E) (hB : Below w.heap.size w w') : QuN w' iv bv n N ci x s L E :=
 ⟨h.its.heap (fun b e => hB.block b (h.its.lt e)), h.bls.step hB, h.d⟩
theorem Frm.mono {ok ok' : Nat → Prop} {w w' : World} (h : Frm ok w w') (ho : ∀ b, ok b → ok' b) : Frm ok' w w' := ⟨h.os, h.tape, h.output, h.size, fun b hb hn => h.block b hb (fun e => hn (ho b e))⟩
theorem Frm.andThen {ok : Nat → Prop} {w w1 w2 : World} (h : Frm ok w w1) (k : Frm ok w1 w2) : Frm ok w w2 :=
 ⟨k.os.trans h.os, k.tape.trans h.tape, k.output.trans h.output, Nat.le_trans h.size k.size, fun b hb hn => (k.block b (Nat.lt_of_lt_of_le hb h.size) hn).trans (h.block b hb hn)⟩
theorem Frm.of {ok : Nat → Prop} {w w' : World} (h : Below w.heap.size w w') : Frm ok w w' := ⟨h.os, h.tape, h.output, h.size, fun b hb _ => h.block b hb⟩
set_option maxRecDepth 100000 in
set_option maxHeartbeats 4000000 in
theorem markQu_any (io bo : Option Addr) (ic bc n N : Nat) (m d : Int) (ci x s : Nat → Value) (L : Nat → Nat) (E : Nat → Nat → Value) (hn : n ≤ 1048576) (hN : N ≤ 1048576) (hL : ∀ i, i < N → L i ≤ 1048576) (w : World) (hO : QuN w (.slice io n ic) (.slice bo N bc) n N ci x s L E) : Calls Try.prog 11 #[.agg #[.int .i64 m, .int .i64 d, .slice io n ic, .slice bo N bc], .int .i64 1] w (fun r w' => r = .returned (.int .i64 (mkB (1 + n * 5) L N : Int)) ∧ QuN w' (.slice io n ic) (.slice bo N bc) n N (nuK 1) (bkX (1 + n * 5) L) s L (mqE (1 + n * 5) L) ∧ Frm (quN (.slice io n ic) (.slice bo N bc) N s) w w') := by
 have B0 : Blk (w.alloc (.cells #[.int .i64 m, .int .i64 d, .slice io n ic, .slice bo N bc] 35)) w.heap.size [.int .i64 m, .int .i64 d, .slice io n ic, .slice bo N bc] := Blk.new w [.int .i64 m, .int .i64 d, .slice io n ic, .slice bo N bc] 35 rfl
 have HB : Below w.heap.size w (w.alloc (.cells #[.int .i64 m, .int .i64 d, .slice io n ic, .slice bo N bc] 35)) := (Below.refl _ w).alloc (Nat.le_refl _) _
 have hlt : ∀ b, quN (.slice io n ic) (.slice bo N bc) N s b → b < w.heap.size := fun b hb => by
   rcases hb with h | h | ⟨i, hi, h⟩
   · exact hO.its.lt h
   · exact hO.bls.row.lt h
   · exact (hO.bls.ids i hi).lt h
 have hO1 := hO.step HB
 have hdd := hO.d
 clear hO
 go_enter Try.func11, Try.ntmps11
 go_upto_region 1 with fail
 generalize (w.alloc (.cells #[.int .i64 m, .int .i64 d, .slice io n ic, .slice bo N bc] 35)) = W1 at *
 have C1 := markItQ_any (.slice io n ic) n 1 ci hn (by omega) W1 hO1.its
 have c2 := B0.c 2 rfl
 go_wp2_with fail
 refine C1.mono ?_
 rintro r w1 ⟨rfl, hI, hG⟩
 clear C1 c2
 have hF1 : Frm (quN (.slice io n ic) (.slice bo N bc) N s) W1 w1 := (Frm.refl _ _).grownO hG (fun b e => .inl e)
 have B1 := B0.grown hG (fun e => absurd (hlt _ (.inl e.symm)) (by omega))
 have hBl : BkN w1 (.slice bo N bc) N x s L E := hO1.bls.frm ((Frm.refl (fun b => (Value.slice io n ic).ownBlock = some b) _).grownO hG (fun b e => e)) (fun b hb e => hdd b e hb)
 have C2 := markBlQ_any (.slice bo N bc) N (1 + n * 5) x s L E hN hL (by omega) w1 hBl
 have c3 := B1.c 3 rfl
 obtain ⟨k1, hk1⟩ : ∃ k1, 1 + n * 5 = k1 := ⟨_, rfl⟩
 have HK1 : Hid (1 + n * 5 = k1) := hk1
 rw [hk1] at C2 ⊢
 clear hG hO1 hBl B0 hk1
 go_wp2_with fail
 refine C2.mono ?_
 rintro r w2 ⟨rfl, hBl, hF2⟩
 have hF := hF1.andThen (hF2.mono (fun b e => .inr e))
 have hI2 := hI.heap (w' := w2) (fun b e => hF2.block b (hI.lt e) (hdd b e))
 have hFF : Frm (quN (.slice io n ic) (.slice bo N bc) N s) w w2 := (Frm.of HB).andThen hF
 obtain ⟨kz, hkz⟩ : ∃ kz, mkB k1 L N = kz := ⟨_, rfl⟩
 have HKZ : Hid (mkB k1 L N = kz) := hkz
 rw [hkz]
 clear hkz
 clear C2 c3 hF1 hF2 hF hI B1
 go_wp2
 go_ret
 exact ⟨by show Ending.returned (.int .i64 (kz : Int)) = _; rw [HK1.out, HKZ.out], ⟨hI2, by rw [HK1.out]; exact hBl, hdd⟩, hFF⟩
set_option maxRecDepth 100000 in
set_option maxHeartbeats 2000000 in
theorem eqQuad_any (Q : QD) (m d : Int) (ao bo co do_ : Option Addr) (ca cb cc cd A off D od : Nat) (so ro : Nat → Option Addr × Nat) (hm : Q.m ≤ 1048576) (hN : Q.N ≤ 1048576) (hL : ∀ i, i < Q.N → Q.L i ≤ 1048576) (w : World) (hbo : 0 < Q.N → bo = some ⟨A, off, none⟩) (hdo : 0 < Q.N → do_ = some ⟨D, od, none⟩) (hI : ItIn Q w ao (List.range Q.m)) (hJ : ItIn Q w co (List.range Q.m)) (hA : BlIn Q w A off so) (hC : BlIn Q w D od ro) : Calls Try.prog 10 #[.agg #[.int .i64 m, .int .i64 d, .slice ao Q.m ca, .slice bo Q.N cb], .agg #[.int .i64 m, .int .i64 d, .slice co Q.m cc, .slice do_ Q.N cd]] w (VP (.bool true) w) := by
 have B0 := (Blk.new w [.int .i64 m, .int .i64 d, .slice ao Q.m ca, .slice bo Q.N cb] 35 rfl).alloc (.cells #[.int .i64 m, .int .i64 d, .slice co Q.m cc, .slice do_ Q.N cd] 35)
 have B1 := Blk.new (w.alloc (.cells #[.int .i64 m, .int .i64 d, .slice ao Q.m ca, .slice bo Q.N cb] 35)) [.int .i64 m, .int .i64 d, .slice co Q.m cc, .slice do_ Q.N cd] 35 (g := w.heap.size + 1) (by simp)
 have HB := ((Below.refl _ w).alloc (Nat.le_refl _) (.cells #[.int .i64 m, .int .i64 d, .slice ao Q.m ca, .slice bo Q.N cb] 35)).alloc (by simp) (.cells #[.int .i64 m, .int .i64 d, .slice co Q.m cc, .slice do_ Q.N cd] 35)
 have HI : Hid (ItIn Q w ao (List.range Q.m)) := hI
 have HJ : Hid (ItIn Q w co (List.range Q.m)) := hJ
 have HA : Hid (BlIn Q w A off so) := hA
 have HC : Hid (BlIn Q w D od ro) := hC
 have E1 := fun w h h' => eqItemS_any Q ao co ca cc hm w h h'
 have E2 := fun w h h' => eqBlockS_any Q bo do_ cb cd A off D od so ro hN hL w hbo hdo h h'
 clear hI hJ hA hC
 go_enter Try.func10, Try.ntmps10
 go_upto_region 1 with fail
 generalize ((w.alloc (.cells #[.int .i64 m, .int .i64 d, .slice ao Q.m ca, .slice bo Q.N cb] 35)).alloc (.cells #[.int .i64 m, .int .i64 d, .slice co Q.m cc, .slice do_ Q.N cd] 35)) = W1 at *
 have p0 := B0.c 0 rfl; have p1 := B0.c 1 rfl; have p2 := B0.c 2 rfl
 have q0 := B1.c 0 rfl; have q1 := B1.c 1 rfl; have q2 := B1.c 2 rfl
 go_wp2_with fail
 refine (E1 _ (HI.out.step HB) (HJ.out.step HB)).mono ?_
 rintro r w1 ⟨rfl, hB⟩
 replace B0 := B0.step hB; replace B1 := B1.step hB
 have HB2 := HB.trans (hB.mono HB.size)
 clear hB HB p0 p1 p2 q0 q1 q2 E1
 have p3 := B0.c 3 rfl; have q3 := B1.c 3 rfl
 go_wp2_with fail
 refine (E2 _ (HA.out.below HB2) (HC.out.below HB2)).mono ?_
 rintro r w2 ⟨rfl, hB⟩
 have HB3 := HB2.trans (hB.mono HB2.size)
 clear hB HB2 p3 q3 E2
 go_wp2
 go_ret
 exact ⟨rfl, HB3⟩
theorem szIdQ_any (ao : Option Addr) (m cap : Nat) (l : Int) (h0 : 0 ≤ l) (h1 : l ≤ 1048576) (hm : m ≤ 9223372036854775807) (w : World) : Calls Try.prog 53 #[.slice ao m cap, .int .i64 l] w (VP (.int .i64 (if (m : Int) ≤ l then l - m else -1)) w) := by
 have hmI : (m : Int) ≤ 9223372036854775807 := by omega
 by_cases h : (m : Int) ≤ l
 · rw [if_pos h]
   go_enter Try.func53, Try.ntmps53
   go_wp2
   go_ret
   exact ⟨rfl, Below.refl _ _⟩
 · rw [if_neg h]
   have h' : l < (m : Int) := by omega
   go_enter Try.func53, Try.ntmps53
   go_wp2
   go_ret
   exact ⟨rfl, Below.refl _ _⟩
theorem szItQ_any (ao : Option Addr) (m cap : Nat) (l : Int) (h0 : 0 ≤ l) (h1 : l ≤ 1048576) (hm : m ≤ 9223372036854775807) (w : World) : Calls Try.prog 14 #[.slice ao m cap, .int .i64 l] w (VP (.int .i64 (if (m : Int) ≤ l then l - m else -1)) w) := by
 have hmI : (m : Int) ≤ 9223372036854775807 := by omega
 by_cases h : (m : Int) ≤ l
 · rw [if_pos h]
   go_enter Try.func14, Try.ntmps14
   go_wp2
   go_ret
   exact ⟨rfl, Below.refl _ _⟩
 · rw [if_neg h]
   have h' : l < (m : Int) := by omega
   go_enter Try.func14, Try.ntmps14
   go_wp2
   go_ret
   exact ⟨rfl, Below.refl _ _⟩
theorem szBlockQ_any (ao : Option Addr) (m cap : Nat) (x y z : Int) (t : Bool) (l : Int) (h0 : 0 ≤ l) (h1 : l ≤ 1048576) (hm : m ≤ 9223372036854775807) (w : World) : Calls Try.prog 30 #[.agg #[.int .i64 x, .int .i64 y, .int .i64 z, .bool t, .slice ao m cap], .int .i64 l] w (VP (.int .i64 (if (m : Int) ≤ l then l - m else -1)) w) := by
 have HB : Below w.heap.size w (w.alloc (.cells #[.int .i64 x, .int .i64 y, .int .i64 z, .bool t, .slice ao m cap] 74)) := (Below.refl _ w).alloc (Nat.le_refl _) _
 have B0 := Blk.new w [.int .i64 x, .int .i64 y, .int .i64 z, .bool t, .slice ao m cap] 74 rfl
 have SP := szIdQ_any ao m cap l h0 h1 hm
 go_enter Try.func30, Try.ntmps30
 have b0 := B0.c 4 rfl
 by_cases h : (m : Int) ≤ l
 · rw [if_pos h] at SP ⊢
   go_wp2_with fail
   refine (SP _).mono ?_
   rintro e w1 ⟨rfl, hB⟩
   replace HB := HB.trans (hB.mono HB.size)
   clear hB SP B0 b0
   have h2 : 0 ≤ l - (m : Int) := by omega
   go_wp2
   go_ret
   exact ⟨rfl, HB⟩
 · rw [if_neg h] at SP ⊢
   go_wp2_with fail
   refine (SP _).mono ?_
   rintro e w1 ⟨rfl, hB⟩
   replace HB := HB.trans (hB.mono HB.size)
   clear hB SP B0 b0
   go_wp2
   go_ret
   exact ⟨rfl, HB⟩
def SzQ (n : Nat) (L : Nat → Nat) (w : World) (e : Ending) (w' : World) : Prop := ∃ z : Int, e = .returned (.int .i64 z) ∧ -1 ≤ z ∧ z ≤ 1048576 ∧ (0 ≤ z → n ≤ 1048576 ∧ ∀ i, i < n → L i ≤ 1048576) ∧ Below w.heap.size w w'
set_option maxRecDepth 100000 in
set_option maxHeartbeats 2000000 in
theorem szBlockS_any (Q : QD) (bo : Option Addr) (cap A off : Nat) (so : Nat → Option Addr × Nat) (l0 : Int) (k0 : 0 ≤ l0) (k1 : l0 ≤ 1048576) (hN : Q.N ≤ 9223372036854775807) (hL : ∀ i, i < Q.N → Q.L i ≤ 9223372036854775807) (hbo : 0 < Q.N → bo = some ⟨A, off, none⟩) (w : World) (hBl : BlIn Q w A off so) : Calls Try.prog 15 #[.slice bo Q.N cap, .int .i64 l0] w (SzQ Q.N Q.L w) := by
 obtain ⟨n, hn⟩ : ∃ n, Q.N = n := ⟨_, rfl⟩
 have HN : Hid (Q.N = n) := hn
 have HL : Hid (∀ i, i < n → Q.L i ≤ 9223372036854775807) := by rw [← hn]; exact hL
 have HBO : Hid (0 < n → bo = some ⟨A, off, none⟩) := by rw [← hn]; exact hbo
 have HBL : Hid (BlIn Q w A off so) := hBl
 have hnI : (n : Int) ≤ 9223372036854775807 := by omega
 rw [hn]
 clear hn hL hbo hBl hN
 by_cases h : (n : Int) ≤ l0
 · go_enter Try.func15, Try.ntmps15
   have h9 : ¬ (l0 - (n : Int) < 0) := by omega
   go_wp2_with fail
   go_loopw [1, 5] (fun s i wr => ∃ (c : Nat) (l : Int), c ≤ n ∧ i = .int .i64 c ∧ s = .int .i64 l ∧ 0 ≤ l ∧ l ≤ 1048576 ∧ (∀ j, j < c → Q.L j ≤ 1048576) ∧ Below w.heap.size w wr) (fun _ i _ => n - (intOf i).toNat)
   case atStart => exact ⟨0, _, by omega, rfl, rfl, by omega, by omega, fun j hj => by omega, Below.refl _ _⟩
   case round =>
     obtain ⟨c, l, hc, rfl, rfl, l0, l1, hall, HB⟩ := hrel
     have HA : Hid (∀ j, j < c → Q.L j ≤ 1048576) := hall
     clear hall
     by_cases hcn : c < n
     · obtain rfl := HBO.out (by omega)
       obtain ⟨hA, q0, q1, q2, q3, q4, -⟩ := HBL.out.below HB c (by rw [HN.out]; exact hcn)
       have hcI : (c : Int) < n := by omega
       have SL := szBlockQ_any (so c).1 (Q.L c) (so c).2 (Q.X c) (Q.Y c) (Q.Z c) (Q.T c) l l0 l1 (HL.out c hcn)
       go_wp2_with fail
       refine (SL _).mono ?_
       rintro e w1 ⟨rfl, hB⟩
       replace HB := HB.trans (hB.mono HB.size)
       clear hB SL q0 q1 q2 q3 q4 hA
       by_cases hl : (Q.L c : Int) ≤ l
       · rw [if_pos hl]
         have hl2 : 0 ≤ l - (Q.L c : Int) := by omega
         go_wp2
         go_roundw
         case rel => exact ⟨c + 1, _, by omega, by go_num, rfl, by omega, by omega, fun j hj => by
           rcases Nat.lt_or_ge j c with h | h
           · exact HA.out j h
           · obtain rfl : j = c := by omega
             omega, HB⟩
         case measure => simp [intOf]; omega
       · rw [if_neg hl]
         go_wp2
         go_ret
         exact ⟨-1, rfl, by omega, by omega, fun h => by omega, HB⟩
     · obtain rfl : c = n := by omega
       clear HBL HL
       go_wp2
       go_ret
       exact ⟨l, rfl, by omega, l1, fun _ => ⟨by omega, HA.out⟩, HB⟩
 · have h' : l0 < (n : Int) := by omega
   clear HBL HL
   go_enter Try.func15, Try.ntmps15
   go_wp2
   go_ret
   exact ⟨-1, rfl, by omega, by omega, fun h => by omega, Below.refl _ _⟩
def SzQu (Q : QD) (w : World) (e : Ending) (w' : World) : Prop := ∃ z : Int, e = .returned (.int .i64 z) ∧ -1 ≤ z ∧ (0 ≤ z → Q.m ≤ 1048576 ∧ Q.N ≤ 1048576 ∧ ∀ i, i < Q.N → Q.L i ≤ 1048576) ∧ Below w.heap.size w w'
set_option maxRecDepth 100000 in
set_option maxHeartbeats 2000000 in
theorem szQuad_any (Q : QD) (ao bo : Option Addr) (cap bcap A off : Nat) (so : Nat → Option Addr × Nat) (m d : Int) (hm : Q.m ≤ 9223372036854775807) (hN : Q.N ≤ 9223372036854775807) (hL : ∀ i, i < Q.N → Q.L i ≤ 9223372036854775807) (hbo : 0 < Q.N → bo = some ⟨A, off, none⟩) (w : World) (hBl : BlIn Q w A off so) : Calls Try.prog 4 #[.agg #[.int .i64 m, .int .i64 d, .slice ao Q.m cap, .slice bo Q.N bcap], .int .i64 1048576] w (SzQu Q w) := by
 have B0 := Blk.new w [.int .i64 m, .int .i64 d, .slice ao Q.m cap, .slice bo Q.N bcap] 25 rfl
 have HB : Below w.heap.size w (w.alloc (.cells #[.int .i64 m, .int .i64 d, .slice ao Q.m cap, .slice bo Q.N bcap] 25)) := (Below.refl _ w).alloc (Nat.le_refl _) _
 have S1 := fun w => szItQ_any ao Q.m cap 1048576 (by omega) (by omega) hm w
 have HBL : Hid (BlIn Q w A off so) := hBl
 clear hBl
 go_enter Try.func4, Try.ntmps4
 go_upto_region 1 with fail
 generalize (w.alloc (.cells #[.int .i64 m, .int .i64 d, .slice ao Q.m cap, .slice bo Q.N bcap] 25)) = W1 at *
 have b2 := B0.c 2 rfl
 by_cases h : (Q.m : Int) ≤ 1048576
 · rw [if_pos h] at S1
   have S2 := fun w h => szBlockS_any Q bo bcap A off so (1048576 - (Q.m : Int)) (by omega) (by omega) hN hL hbo w h
   go_wp2_with fail
   refine (S1 _).mono ?_
   rintro e w1 ⟨rfl, hB⟩
   replace HB := HB.trans (hB.mono HB.size)
   replace B0 := B0.step hB
   clear hB S1 b2
   have b3 := B0.c 3 rfl
   have h2 : 0 ≤ 1048576 - (Q.m : Int) := by omega
   have HM : Hid (Q.m ≤ 1048576) := by show Q.m ≤ 1048576; omega
   go_wp2_with fail
   refine (S2 _ (HBL.out.below HB)).mono ?_
   rintro e w2 ⟨z, rfl, z0, z1, hz, hB⟩
   replace HB := HB.trans (hB.mono HB.size)
   have HZ : Hid (0 ≤ z → Q.N ≤ 1048576 ∧ ∀ i, i < Q.N → Q.L i ≤ 1048576) := hz
   clear hB S2 b3 hz B0
   by_cases hz0 : 0 ≤ z
   · go_wp2
     go_ret
     exact ⟨z, rfl, z0, fun h => ⟨HM.out, HZ.out h⟩, HB⟩
   · have hz' : z < 0 := by omega
     go_wp2
     go_ret
     exact ⟨-1, rfl, by omega, fun h => by omega, HB⟩
 · rw [if_neg h] at S1
   go_wp2_with fail
   refine (S1 _).mono ?_
   rintro e w1 ⟨rfl, hB⟩
   replace HB := HB.trans (hB.mono HB.size)
   clear hB S1 b2 B0
   go_wp2
   go_ret
   exact ⟨-1, rfl, by omega, fun h => by omega, HB⟩
theorem QuRow.items {Q : QD} {w : World} {b gi gb : Nat} {S : Nat → Nat} (h : QuRow Q w b gi gb S) : ItIn Q w (some ⟨gi, 0, none⟩) (List.range Q.m) := itIn_row h.its
def QuE (Q : QD) (m d : Int) (v : Value) (W : World) : Prop := ∃ gi gb S, v = .agg #[.int .i64 m, .int .i64 d, .slice (some ⟨gi, 0, none⟩) Q.m Q.m, .slice (some ⟨gb, 0, none⟩) Q.N Q.N] ∧ QuRow Q W 0 gi gb S
theorem QuE.step {Q : QD} {m d : Int} {v : Value} {W W2 : World} (h : QuE Q m d v W) (hB : Below W.heap.size W W2) : QuE Q m d v W2 := by
 obtain ⟨gi, gb, S, h1, h2⟩ := h
 exact ⟨gi, gb, S, h1, h2.step hB⟩
theorem QuRow.zero {Q : QD} {w : World} {b gi gb : Nat} {S : Nat → Nat} (h : QuRow Q w b gi gb S) : QuRow Q w 0 gi gb S :=
 ⟨h.its, Nat.zero_le _, ⟨h.bls.row, Nat.zero_le _, fun j hj => ⟨Nat.zero_le _, (h.bls.ids j hj).2⟩, h.bls.up⟩, h.d1, h.d2⟩
def QuG (u : Value) (lo hi : Nat) (W : World) : Prop := ∃ (m d : Int) (io : Option Addr) (ic n : Nat) (bo : Option Addr) (bc N : Nat) (ci x s : Nat → Value) (L : Nat → Nat) (E : Nat → Nat → Value), u = .agg #[.int .i64 m, .int .i64 d, .slice io n ic, .slice bo N bc] ∧ n ≤ 1048576 ∧ N ≤ 1048576 ∧ (∀ i, i < N → L i ≤ 1048576) ∧ QuN W (.slice io n ic) (.slice bo N bc) n N ci x s L E ∧ ∀ b, quN (.slice io n ic) (.slice bo N bc) N s b → lo ≤ b ∧ b < hi
def MkG (z : Nat) (u : Value) (lo hi : Nat) (W : World) : Prop := ∃ (m d : Int) (io : Option Addr) (ic n : Nat) (bo : Option Addr) (bc N : Nat) (s : Nat → Value) (L : Nat → Nat), u = .agg #[.int .i64 m, .int .i64 d, .slice io n ic, .slice bo N bc] ∧ n ≤ 1048576 ∧ N ≤ 1048576 ∧ (∀ i, i < N → L i ≤ 1048576) ∧ z = mkB (1 + n * 5) L N ∧ QuN W (.slice io n ic) (.slice bo N bc) n N (nuK 1) (bkX (1 + n * 5) L) s L (mqE (1 + n * 5) L) ∧ ∀ b, quN (.slice io n ic) (.slice bo N bc) N s b → lo ≤ b ∧ b < hi
theorem QuG.keep {u : Value} {lo hi : Nat} {W W2 : World} (h : QuG u lo hi W) (hk : ∀ b, lo ≤ b → b < hi → W2.heap[b]? = W.heap[b]?) : QuG u lo hi W2 := by
 obtain ⟨m, d, io, ic, n, bo, bc, N, ci, x, s, L, E, e, h1, h2, h3, h5, h6⟩ := h
 exact ⟨m, d, io, ic, n, bo, bc, N, ci, x, s, L, E, e, h1, h2, h3, ⟨h5.its.heap (fun b hb => hk b (h6 b (.inl hb)).1 (h6 b (.inl hb)).2), ⟨h5.bls.row.heap (fun b hb => hk b (h6 b (.inr (.inl hb))).1 (h6 b (.inr (.inl hb))).2), fun i hi => (h5.bls.ids i hi).heap (fun b hb => hk b (h6 b (.inr (.inr ⟨i, hi, hb⟩))).1 (h6 b (.inr (.inr ⟨i, hi, hb⟩))).2), h5.bls.d1, h5.bls.d2⟩, h5.d⟩, h6⟩
theorem markG_any {u : Value} {lo hi : Nat} (W : World) (h : QuG u lo hi W) : Calls Try.prog 11 #[u, .int .i64 1] W (fun r w' => ∃ z : Nat, z ≤ 1103816294400 ∧ r = .returned (.int .i64 (z : Int)) ∧ MkG z u lo hi w' ∧ Frm (fun b => lo ≤ b ∧ b < hi) W w') := by
 obtain ⟨m, d, io, ic, n, bo, bc, N, ci, x, s, L, E, rfl, h1, h2, h3, h4, h5⟩ := h
 refine (markQu_any io bo ic bc n N m d ci x s L E h1 h2 h3 W h4).mono ?_
 rintro r w' ⟨rfl, k1, k2⟩
 have hz := mkB_le (K := 1 + n * 5) h3 N (Nat.le_refl _)
 have hz2 : N * 1048580 ≤ 1048576 * 1048580 := Nat.mul_le_mul_right _ (by omega)
 exact ⟨_, by omega, rfl, ⟨m, d, io, ic, n, bo, bc, N, s, L, rfl, h1, h2, h3, rfl, k1, h5⟩, k2.mono (fun b hb => h5 b hb)⟩
theorem QuRow.quG {Q : QD} {w : World} {b gi gb : Nat} {S : Nat → Nat} (h : QuRow Q w b gi gb S) (m d : Int) (hm : Q.m ≤ 1048576) (hN : Q.N ≤ 1048576) (hL : ∀ i, i < Q.N → Q.L i ≤ 1048576) : QuG (.agg #[.int .i64 m, .int .i64 d, .slice (some ⟨gi, 0, none⟩) Q.m Q.m, .slice (some ⟨gb, 0, none⟩) Q.N Q.N]) b w.heap.size w := by
 refine ⟨m, d, _, _, _, _, _, _, _, blV Q S, fun i => .slice (some ⟨S i, 0, none⟩) (Q.L i) (Q.L i), Q.L, fun i k => .int .i64 (Q.E i k), rfl, hm, hN, hL, ⟨RwN.row h.its, ⟨(RwN.row h.bls.row).congr (fun k hk => ?_), fun i hi => RwN.row (by rw [Nat.mul_one]; exact (h.bls.ids i hi).2.2), fun i c hi hc e => ?_, fun i k c hi hk hne hc e => ?_⟩, fun c hc h9 => ?_⟩, fun c hc => ?_⟩
 · unfold bkC
   by_cases e : k % 5 = 4
   · rw [if_pos e]
     have h9 := blV4 Q S (k / 5)
     rw [show k / 5 * 5 + 4 = k by omega] at h9
     exact h9
   · rw [if_neg e]
 · have e1 := Option.some.inj hc
   have e2 := Option.some.inj e
   exact (h.bls.ids i hi).2.1 (e1.trans e2.symm)
 · have e1 : S i = c := Option.some.inj hc
   have e2 : S k = c := Option.some.inj e
   rcases Nat.lt_or_gt_of_ne hne with h9 | h9
   · have := h.bls.up i k h9 hk; omega
   · have := h.bls.up k i h9 hi; omega
 · have e1 : gi = c := Option.some.inj hc
   rcases h9 with h9 | ⟨i, hi, h9⟩
   · exact h.d1 (e1.trans (Option.some.inj h9).symm)
   · exact h.d2 i hi ((Option.some.inj h9 : S i = c).trans e1.symm)
 · rcases hc with hc | hc | ⟨i, hi, hc⟩
   · have e1 : gi = c := Option.some.inj hc
     exact ⟨by rw [← e1]; exact h.lt, by rw [← e1]; exact h.its.lt⟩
   · have e1 : gb = c := Option.some.inj hc
     exact ⟨by rw [← e1]; exact h.bls.lt, by rw [← e1]; exact h.bls.row.lt⟩
   · have e1 : S i = c := Option.some.inj hc
     exact ⟨by rw [← e1]; exact (h.bls.ids i hi).1, by rw [← e1]; exact (h.bls.ids i hi).2.2.lt⟩
theorem NoOwn.lt {w : World} {base : Nat} {v : Value} {L : List Int} (h : NoOwn w base v L) {g : Nat} (hg : v.ownBlock = some g) : base ≤ g ∧ g < w.heap.size := by
 rcases h with ⟨h1, _⟩ | ⟨g', cap, f, h1, h2, h3, h4, h5⟩
 · subst h1; cases hg
 · subst h1; cases hg; exact ⟨h2, h4.lt⟩
theorem eqNo_own {v v' : Value} {L : List Int} {b b' : Nat} (hn : L.length ≤ 1048576) (w : World) (h : NoOwn w b v L) (h' : NoOwn w b' v' L) : Calls Try.prog 9 #[v, v'] w (BoolP true w) := by
 obtain ⟨ao, cap, rfl, hI⟩ := h.in
 obtain ⟨bo, cap', rfl, hI'⟩ := h'.in
 exact eqNoS_any ao bo L.length cap cap' _ hn w hI hI'
end Go.Proofs.Ythelolpogdcmhaa
