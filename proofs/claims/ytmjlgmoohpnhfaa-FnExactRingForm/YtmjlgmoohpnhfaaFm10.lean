/- Part 10 of the walks that the proof leans on. -/
import Derived.Test.YtmjlgmoohpnhfaaFm9
/- A ring's form: drawn regions that look for the least spot. -/
namespace Go.Proofs.Ytmjlgmoohpnhfaa
open Go.RowKit
def VfmI (A1 g n cap f : Nat) (x y u t : Int) (b : Bool) (_B : Nat) : Nat → Value → World → Prop
  | 0, v, _ => v = .agg #[.int .i64 x, .int .i64 y]
  | 1, v, _ => v = .pointer (some ⟨A1, 0, none⟩)
  | 2, v, _ => v = .slice (some ⟨g, 0, none⟩) n cap
  | 3, v, _ => v = .int .i64 (f : Nat)
  | 4, v, _ => v = .pointer (some ⟨g, f * 2, none⟩)
  | 5, v, _ => v = .agg #[.int .i64 u, .int .i64 t]
  | 6, v, _ => v = .bool b
  | _, _, _ => True
theorem VfmI.mono {A1 g n cap f : Nat} {x y u t : Int} {b : Bool} {B j : Nat} {v : Value} {W W2 : World} (_hB : Below W.heap.size W W2) (h : VfmI A1 g n cap f x y u t b B j v W) : VfmI A1 g n cap f x y u t b B j v W2 := by
  unfold VfmI at *
  split <;> simp only at h <;> first | exact h | trivial
set_option maxRecDepth 100000 in
set_option maxHeartbeats 4000000 in
theorem fmI {Q : Exit → Act → World → Prop} {A1 g n cap f : Nat} {x y u t : Int} {b : Bool} {A5 : Nat}  {w0 : World} {a0 : Act} {idq : Nat} {t0 t1 t2 t3 t4 t5 t6 : TypeId} {q0 q1 q2 q3 q4 q5 q6 : String}
    (fn : (f : Int) < (n : Int)) (hA : ∀ w', Calls Try.prog 41 #[.agg #[.int .i64 x, .int .i64 y], .agg #[.int .i64 u, .int .i64 t]] w' (BoolP b w')) (h5 : a0.tmps[5]? = some (.pointer (some ⟨A5, 0, none⟩))) (h1 : a0.tmps[1]? = some (.pointer (some ⟨A1, 0, none⟩))) (h3 : a0.tmps[3]? = some (.int .i64 (f : Nat))) (k0 : w0.cell? ⟨A5, 0, none⟩ = some (.int .i64 x)) (l0 : (⟨A5, 0, none⟩ : Addr).block < w0.heap.size) (k1 : w0.cell? ⟨A5, 1, none⟩ = some (.int .i64 y)) (l1 : (⟨A5, 1, none⟩ : Addr).block < w0.heap.size) (k2 : w0.cell? ⟨A1, 0, none⟩ = some (.slice (some ⟨g, 0, none⟩) n cap)) (l2 : (⟨A1, 0, none⟩ : Addr).block < w0.heap.size) (k3 : w0.cell? ⟨g, f * 2, none⟩ = some (.int .i64 u)) (l3 : (⟨g, f * 2, none⟩ : Addr).block < w0.heap.size) (k4 : w0.cell? ⟨g, f * 2 + 1, none⟩ = some (.int .i64 t)) (l4 : (⟨g, f * 2 + 1, none⟩ : Addr).block < w0.heap.size) (hz : a0.tmps.size = 43)
    (hQ : ∀ aq W, aq.tmps.size = a0.tmps.size → aq.defers = a0.defers → (∀ e, e ∉ ([23, 24, 25, 26, 27, 28, 29] : List Nat) → aq.tmps[e]? = a0.tmps[e]?) → VfmI A1 g n cap f x y u t b w0.heap.size 6 (aq.tmps.getD 29 undef) W → Below w0.heap.size w0 W → Q .normal aq W) :
    (Code.region idq #[{ dst := some 23, op := Op.load 55 (Operand.tmp 5), type := t0, pos := q0, after := #[], guard := none },
    { dst := some 24, op := Op.fieldAddr 28 (Operand.tmp 1) 0, type := t1, pos := q1, after := #[], guard := none },
    { dst := some 25, op := Op.load 26 (Operand.tmp 24), type := t2, pos := q2, after := #[{ on := 1, ground := Ground.data }], guard := none },
    { dst := some 26, op := Op.move (Operand.tmp 3), type := t3, pos := q3, after := #[], guard := none },
    { dst := some 27, op := Op.indexAddr 26 (Operand.tmp 25) (Operand.tmp 26), type := t4, pos := q4, after := #[{ on := 2, ground := Ground.data }, { on := 3, ground := Ground.data }], guard := none },
    { dst := some 28, op := Op.load 55 (Operand.tmp 27), type := t5, pos := q5, after := #[{ on := 4, ground := Ground.data }], guard := none },
    { dst := some 29, op := Op.call { callee := Callee.value (Operand.func 41), args := #[Operand.tmp 23, Operand.tmp 28], argTypes := #[55, 55] }, type := t6, pos := q6, after := #[{ on := 0, ground := Ground.data }, { on := 5, ground := Ground.data }], guard := none }] true).wp Try.prog Q a0 w0 := by
  have hS : distS [some 23, some 24, some 25, some 26, some 27, some 28, some 29] = true := rfl
  refine wp_region_q (by kernel_rfl) w0.heap.size [some 23, some 24, some 25, some 26, some 27, some 28, some 29] (VfmI A1 g n cap f x y u t b w0.heap.size) rfl ?_ ?_
  · intro Q lq aq W iq oq hJ hl ho hall
    have hJ2 := hJ
    obtain ⟨z1, z2, z3, z4, z5, z6, z7⟩ := hJ
    have g5 : aq.tmps.getD 5 undef = .pointer (some ⟨A5, 0, none⟩) := by rw [Array.getD_eq_getD_getElem?, z4 5 (by decide), h5]; rfl
    have g1 : aq.tmps.getD 1 undef = .pointer (some ⟨A1, 0, none⟩) := by rw [Array.getD_eq_getD_getElem?, z4 1 (by decide), h1]; rfl
    have g3 : aq.tmps.getD 3 undef = .int .i64 (f : Nat) := by rw [Array.getD_eq_getD_getElem?, z4 3 (by decide), h3]; rfl
    have c0 : W.cell? ⟨A5, 0, none⟩ = some (.int .i64 x) := (z5.cell l0).trans k0
    have c1 : W.cell? ⟨A5, 1, none⟩ = some (.int .i64 y) := (z5.cell l1).trans k1
    have c2 : W.cell? ⟨A1, 0, none⟩ = some (.slice (some ⟨g, 0, none⟩) n cap) := (z5.cell l2).trans k2
    have c3 : W.cell? ⟨g, f * 2, none⟩ = some (.int .i64 u) := (z5.cell l3).trans k3
    have c4 : W.cell? ⟨g, f * 2 + 1, none⟩ = some (.int .i64 t) := (z5.cell l4).trans k4
    match iq, ho with
    | 0, ho =>
      cases ho
      refine wpOp_of rfl rfl ?_
      have hK := fun (v : Value) (W2 : World) hW hT hv => hJ2.put hS 0 23 rfl (by omega) (W' := W2) hW hT v hv
      clear ho hall hl hQ
      generalize InvQ _ _ _ w0 a0 (lq.setIfInBounds 0 true) = K at hK ⊢
      clear hJ2 hS z1 z2 z3 z4 z6 z7
      go_simp
      exact hK _ _ z5 (fun _ _ h => h) rfl
    | 1, ho =>
      cases ho
      refine wpOp_of rfl rfl ?_
      have hK := fun (v : Value) (W2 : World) hW hT hv => hJ2.put hS 1 24 rfl (by omega) (W' := W2) hW hT v hv
      clear ho hall hl hQ
      generalize InvQ _ _ _ w0 a0 (lq.setIfInBounds 1 true) = K at hK ⊢
      clear hJ2 hS z1 z2 z3 z4 z6 z7
      go_simp
      exact hK _ _ z5 (fun _ _ h => h) rfl
    | 2, ho =>
      cases ho
      refine wpOp_of rfl rfl ?_
      have f1 : (aq.tmps.getD 24 undef) = .pointer (some ⟨A1, 0, none⟩) := z6 1 24 (hall { on := 1, ground := Ground.data } (by simp) rfl) rfl
      have hK := fun (v : Value) (W2 : World) hW hT hv => hJ2.put hS 2 25 rfl (by omega) (W' := W2) hW hT v hv
      clear ho hall hl hQ
      generalize InvQ _ _ _ w0 a0 (lq.setIfInBounds 2 true) = K at hK ⊢
      clear hJ2 hS z1 z2 z3 z4 z6 z7
      go_simp
      exact hK _ _ z5 (fun _ _ h => h) rfl
    | 3, ho =>
      cases ho
      refine wpOp_of rfl rfl ?_
      have hK := fun (v : Value) (W2 : World) hW hT hv => hJ2.put hS 3 26 rfl (by omega) (W' := W2) hW hT v hv
      clear ho hall hl hQ
      generalize InvQ _ _ _ w0 a0 (lq.setIfInBounds 3 true) = K at hK ⊢
      clear hJ2 hS z1 z2 z3 z4 z6 z7
      go_simp
      exact hK _ _ z5 (fun _ _ h => h) rfl
    | 4, ho =>
      cases ho
      refine wpOp_of rfl rfl ?_
      have f2 : (aq.tmps.getD 25 undef) = .slice (some ⟨g, 0, none⟩) n cap := z6 2 25 (hall { on := 2, ground := Ground.data } (by simp) rfl) rfl
      have f3 : (aq.tmps.getD 26 undef) = .int .i64 (f : Nat) := z6 3 26 (hall { on := 3, ground := Ground.data } (by simp) rfl) rfl
      have hK := fun (v : Value) (W2 : World) hW hT hv => hJ2.put hS 4 27 rfl (by omega) (W' := W2) hW hT v hv
      clear ho hall hl hQ
      generalize InvQ _ _ _ w0 a0 (lq.setIfInBounds 4 true) = K at hK ⊢
      clear hJ2 hS z1 z2 z3 z4 z6 z7
      go_simp
      exact hK _ _ z5 (fun _ _ h => h) rfl
    | 5, ho =>
      cases ho
      refine wpOp_of rfl rfl ?_
      have f4 : (aq.tmps.getD 27 undef) = .pointer (some ⟨g, f * 2, none⟩) := z6 4 27 (hall { on := 4, ground := Ground.data } (by simp) rfl) rfl
      have hK := fun (v : Value) (W2 : World) hW hT hv => hJ2.put hS 5 28 rfl (by omega) (W' := W2) hW hT v hv
      clear ho hall hl hQ
      generalize InvQ _ _ _ w0 a0 (lq.setIfInBounds 5 true) = K at hK ⊢
      clear hJ2 hS z1 z2 z3 z4 z6 z7
      go_simp
      exact hK _ _ z5 (fun _ _ h => h) rfl
    | 6, ho =>
      cases ho
      refine wpOp_of rfl rfl ?_
      have f0 : (aq.tmps.getD 23 undef) = .agg #[.int .i64 x, .int .i64 y] := z6 0 23 (hall { on := 0, ground := Ground.data } (by simp) rfl) rfl
      have f5 : (aq.tmps.getD 28 undef) = .agg #[.int .i64 u, .int .i64 t] := z6 5 28 (hall { on := 5, ground := Ground.data } (by simp) rfl) rfl
      have hK := fun (v : Value) (W2 : World) hW hT hv => hJ2.put hS 6 29 rfl (by omega) (W' := W2) hW hT v hv
      clear ho hall hl hQ
      generalize InvQ _ _ _ w0 a0 (lq.setIfInBounds 6 true) = K at hK ⊢
      clear hJ2 hS z1 z2 z3 z4 z6 z7
      go_simp
      refine (hA W).mono ?_
      rintro e v1 ⟨rfl, hBv⟩
      exact hK _ _ (z5.trans (hBv.mono z5.size)) (fun _ _ h => h.mono hBv) rfl
    | iq + 7, ho => simp at ho
  · intro lq aq W hJ hr
    obtain ⟨z1, z2, z3, z4, z5, z6, z7⟩ := hJ
    have hl := listed_of hr [0, 1, 2, 3, 4, 5, 6] [] (by simp) (by kernel_rfl) (by rw [z1]; decide)
    exact hQ aq W z2 z3 (fun e he => z4 e (by simpa using he)) (z6 6 29 (hl 6 (by simp)) rfl) z5
def VfmS (A1 g n cap ix f : Nat) (x y u t : Int) (b : Bool) (_B : Nat) : Nat → Value → World → Prop
  | 0, v, _ => v = .pointer (some ⟨A1, 0, none⟩)
  | 1, v, _ => v = .slice (some ⟨g, 0, none⟩) n cap
  | 2, v, _ => v = .int .i64 (ix : Nat)
  | 3, v, _ => v = .pointer (some ⟨g, ix * 2, none⟩)
  | 4, v, _ => v = .agg #[.int .i64 x, .int .i64 y]
  | 5, v, _ => v = .pointer (some ⟨A1, 0, none⟩)
  | 6, v, _ => v = .slice (some ⟨g, 0, none⟩) n cap
  | 7, v, _ => v = .int .i64 (f : Nat)
  | 8, v, _ => v = .pointer (some ⟨g, f * 2, none⟩)
  | 9, v, _ => v = .agg #[.int .i64 u, .int .i64 t]
  | 10, v, _ => v = .bool b
  | _, _, _ => True
theorem VfmS.mono {A1 g n cap ix f : Nat} {x y u t : Int} {b : Bool} {B j : Nat} {v : Value} {W W2 : World} (_hB : Below W.heap.size W W2) (h : VfmS A1 g n cap ix f x y u t b B j v W) : VfmS A1 g n cap ix f x y u t b B j v W2 := by
  unfold VfmS at *
  split <;> simp only at h <;> first | exact h | trivial
set_option maxRecDepth 100000 in
set_option maxHeartbeats 4000000 in
theorem fmS {Q : Exit → Act → World → Prop} {A1 g n cap ix f : Nat} {x y u t : Int} {b : Bool}  {w0 : World} {a0 : Act} {idq : Nat} {t0 t1 t2 t3 t4 t5 t6 t7 t8 t9 t10 : TypeId} {q0 q1 q2 q3 q4 q5 q6 q7 q8 q9 q10 : String}
    (iN : (ix : Int) < (n : Int)) (fn : (f : Int) < (n : Int)) (hA : ∀ w', Calls Try.prog 37 #[.agg #[.int .i64 x, .int .i64 y], .agg #[.int .i64 u, .int .i64 t]] w' (BoolP b w')) (h1 : a0.tmps[1]? = some (.pointer (some ⟨A1, 0, none⟩))) (h4 : a0.tmps[4]? = some (.int .i64 (ix : Nat))) (h3 : a0.tmps[3]? = some (.int .i64 (f : Nat))) (k0 : w0.cell? ⟨A1, 0, none⟩ = some (.slice (some ⟨g, 0, none⟩) n cap)) (l0 : (⟨A1, 0, none⟩ : Addr).block < w0.heap.size) (k1 : w0.cell? ⟨g, ix * 2, none⟩ = some (.int .i64 x)) (l1 : (⟨g, ix * 2, none⟩ : Addr).block < w0.heap.size) (k2 : w0.cell? ⟨g, ix * 2 + 1, none⟩ = some (.int .i64 y)) (l2 : (⟨g, ix * 2 + 1, none⟩ : Addr).block < w0.heap.size) (k3 : w0.cell? ⟨g, f * 2, none⟩ = some (.int .i64 u)) (l3 : (⟨g, f * 2, none⟩ : Addr).block < w0.heap.size) (k4 : w0.cell? ⟨g, f * 2 + 1, none⟩ = some (.int .i64 t)) (l4 : (⟨g, f * 2 + 1, none⟩ : Addr).block < w0.heap.size) (hz : a0.tmps.size = 59)
    (hQ : ∀ aq W, aq.tmps.size = a0.tmps.size → aq.defers = a0.defers → (∀ e, e ∉ ([23, 24, 25, 26, 27, 28, 29, 30, 31, 32, 33] : List Nat) → aq.tmps[e]? = a0.tmps[e]?) → VfmS A1 g n cap ix f x y u t b w0.heap.size 10 (aq.tmps.getD 33 undef) W → Below w0.heap.size w0 W → Q .normal aq W) :
    (Code.region idq #[{ dst := some 23, op := Op.fieldAddr 28 (Operand.tmp 1) 0, type := t0, pos := q0, after := #[], guard := none },
    { dst := some 24, op := Op.load 26 (Operand.tmp 23), type := t1, pos := q1, after := #[{ on := 0, ground := Ground.data }], guard := none },
    { dst := some 25, op := Op.move (Operand.tmp 4), type := t2, pos := q2, after := #[], guard := none },
    { dst := some 26, op := Op.indexAddr 26 (Operand.tmp 24) (Operand.tmp 25), type := t3, pos := q3, after := #[{ on := 1, ground := Ground.data }, { on := 2, ground := Ground.data }], guard := none },
    { dst := some 27, op := Op.load 55 (Operand.tmp 26), type := t4, pos := q4, after := #[{ on := 3, ground := Ground.data }], guard := none },
    { dst := some 28, op := Op.fieldAddr 28 (Operand.tmp 1) 0, type := t5, pos := q5, after := #[], guard := none },
    { dst := some 29, op := Op.load 26 (Operand.tmp 28), type := t6, pos := q6, after := #[{ on := 5, ground := Ground.data }], guard := none },
    { dst := some 30, op := Op.move (Operand.tmp 3), type := t7, pos := q7, after := #[], guard := none },
    { dst := some 31, op := Op.indexAddr 26 (Operand.tmp 29) (Operand.tmp 30), type := t8, pos := q8, after := #[{ on := 6, ground := Ground.data }, { on := 7, ground := Ground.data }], guard := none },
    { dst := some 32, op := Op.load 55 (Operand.tmp 31), type := t9, pos := q9, after := #[{ on := 8, ground := Ground.data }], guard := none },
    { dst := some 33, op := Op.call { callee := Callee.value (Operand.func 37), args := #[Operand.tmp 27, Operand.tmp 32], argTypes := #[55, 55] }, type := t10, pos := q10, after := #[{ on := 4, ground := Ground.data }, { on := 9, ground := Ground.data }], guard := none }] true).wp Try.prog Q a0 w0 := by
  have hS : distS [some 23, some 24, some 25, some 26, some 27, some 28, some 29, some 30, some 31, some 32, some 33] = true := rfl
  refine wp_region_q (by kernel_rfl) w0.heap.size [some 23, some 24, some 25, some 26, some 27, some 28, some 29, some 30, some 31, some 32, some 33] (VfmS A1 g n cap ix f x y u t b w0.heap.size) rfl ?_ ?_
  · intro Q lq aq W iq oq hJ hl ho hall
    have hJ2 := hJ
    obtain ⟨z1, z2, z3, z4, z5, z6, z7⟩ := hJ
    have g1 : aq.tmps.getD 1 undef = .pointer (some ⟨A1, 0, none⟩) := by rw [Array.getD_eq_getD_getElem?, z4 1 (by decide), h1]; rfl
    have g4 : aq.tmps.getD 4 undef = .int .i64 (ix : Nat) := by rw [Array.getD_eq_getD_getElem?, z4 4 (by decide), h4]; rfl
    have g3 : aq.tmps.getD 3 undef = .int .i64 (f : Nat) := by rw [Array.getD_eq_getD_getElem?, z4 3 (by decide), h3]; rfl
    have c0 : W.cell? ⟨A1, 0, none⟩ = some (.slice (some ⟨g, 0, none⟩) n cap) := (z5.cell l0).trans k0
    have c1 : W.cell? ⟨g, ix * 2, none⟩ = some (.int .i64 x) := (z5.cell l1).trans k1
    have c2 : W.cell? ⟨g, ix * 2 + 1, none⟩ = some (.int .i64 y) := (z5.cell l2).trans k2
    have c3 : W.cell? ⟨g, f * 2, none⟩ = some (.int .i64 u) := (z5.cell l3).trans k3
    have c4 : W.cell? ⟨g, f * 2 + 1, none⟩ = some (.int .i64 t) := (z5.cell l4).trans k4
    match iq, ho with
    | 0, ho =>
      cases ho
      refine wpOp_of rfl rfl ?_
      have hK := fun (v : Value) (W2 : World) hW hT hv => hJ2.put hS 0 23 rfl (by omega) (W' := W2) hW hT v hv
      clear ho hall hl hQ
      generalize InvQ _ _ _ w0 a0 (lq.setIfInBounds 0 true) = K at hK ⊢
      clear hJ2 hS z1 z2 z3 z4 z6 z7
      go_simp
      exact hK _ _ z5 (fun _ _ h => h) rfl
    | 1, ho =>
      cases ho
      refine wpOp_of rfl rfl ?_
      have f0 : (aq.tmps.getD 23 undef) = .pointer (some ⟨A1, 0, none⟩) := z6 0 23 (hall { on := 0, ground := Ground.data } (by simp) rfl) rfl
      have hK := fun (v : Value) (W2 : World) hW hT hv => hJ2.put hS 1 24 rfl (by omega) (W' := W2) hW hT v hv
      clear ho hall hl hQ
      generalize InvQ _ _ _ w0 a0 (lq.setIfInBounds 1 true) = K at hK ⊢
      clear hJ2 hS z1 z2 z3 z4 z6 z7
      go_simp
      exact hK _ _ z5 (fun _ _ h => h) rfl
    | 2, ho =>
      cases ho
      refine wpOp_of rfl rfl ?_
      have hK := fun (v : Value) (W2 : World) hW hT hv => hJ2.put hS 2 25 rfl (by omega) (W' := W2) hW hT v hv
      clear ho hall hl hQ
      generalize InvQ _ _ _ w0 a0 (lq.setIfInBounds 2 true) = K at hK ⊢
      clear hJ2 hS z1 z2 z3 z4 z6 z7
      go_simp
      exact hK _ _ z5 (fun _ _ h => h) rfl
    | 3, ho =>
      cases ho
      refine wpOp_of rfl rfl ?_
      have f1 : (aq.tmps.getD 24 undef) = .slice (some ⟨g, 0, none⟩) n cap := z6 1 24 (hall { on := 1, ground := Ground.data } (by simp) rfl) rfl
      have f2 : (aq.tmps.getD 25 undef) = .int .i64 (ix : Nat) := z6 2 25 (hall { on := 2, ground := Ground.data } (by simp) rfl) rfl
      have hK := fun (v : Value) (W2 : World) hW hT hv => hJ2.put hS 3 26 rfl (by omega) (W' := W2) hW hT v hv
      clear ho hall hl hQ
      generalize InvQ _ _ _ w0 a0 (lq.setIfInBounds 3 true) = K at hK ⊢
      clear hJ2 hS z1 z2 z3 z4 z6 z7
      go_simp
      exact hK _ _ z5 (fun _ _ h => h) rfl
    | 4, ho =>
      cases ho
      refine wpOp_of rfl rfl ?_
      have f3 : (aq.tmps.getD 26 undef) = .pointer (some ⟨g, ix * 2, none⟩) := z6 3 26 (hall { on := 3, ground := Ground.data } (by simp) rfl) rfl
      have hK := fun (v : Value) (W2 : World) hW hT hv => hJ2.put hS 4 27 rfl (by omega) (W' := W2) hW hT v hv
      clear ho hall hl hQ
      generalize InvQ _ _ _ w0 a0 (lq.setIfInBounds 4 true) = K at hK ⊢
      clear hJ2 hS z1 z2 z3 z4 z6 z7
      go_simp
      exact hK _ _ z5 (fun _ _ h => h) rfl
    | 5, ho =>
      cases ho
      refine wpOp_of rfl rfl ?_
      have hK := fun (v : Value) (W2 : World) hW hT hv => hJ2.put hS 5 28 rfl (by omega) (W' := W2) hW hT v hv
      clear ho hall hl hQ
      generalize InvQ _ _ _ w0 a0 (lq.setIfInBounds 5 true) = K at hK ⊢
      clear hJ2 hS z1 z2 z3 z4 z6 z7
      go_simp
      exact hK _ _ z5 (fun _ _ h => h) rfl
    | 6, ho =>
      cases ho
      refine wpOp_of rfl rfl ?_
      have f5 : (aq.tmps.getD 28 undef) = .pointer (some ⟨A1, 0, none⟩) := z6 5 28 (hall { on := 5, ground := Ground.data } (by simp) rfl) rfl
      have hK := fun (v : Value) (W2 : World) hW hT hv => hJ2.put hS 6 29 rfl (by omega) (W' := W2) hW hT v hv
      clear ho hall hl hQ
      generalize InvQ _ _ _ w0 a0 (lq.setIfInBounds 6 true) = K at hK ⊢
      clear hJ2 hS z1 z2 z3 z4 z6 z7
      go_simp
      exact hK _ _ z5 (fun _ _ h => h) rfl
    | 7, ho =>
      cases ho
      refine wpOp_of rfl rfl ?_
      have hK := fun (v : Value) (W2 : World) hW hT hv => hJ2.put hS 7 30 rfl (by omega) (W' := W2) hW hT v hv
      clear ho hall hl hQ
      generalize InvQ _ _ _ w0 a0 (lq.setIfInBounds 7 true) = K at hK ⊢
      clear hJ2 hS z1 z2 z3 z4 z6 z7
      go_simp
      exact hK _ _ z5 (fun _ _ h => h) rfl
    | 8, ho =>
      cases ho
      refine wpOp_of rfl rfl ?_
      have f6 : (aq.tmps.getD 29 undef) = .slice (some ⟨g, 0, none⟩) n cap := z6 6 29 (hall { on := 6, ground := Ground.data } (by simp) rfl) rfl
      have f7 : (aq.tmps.getD 30 undef) = .int .i64 (f : Nat) := z6 7 30 (hall { on := 7, ground := Ground.data } (by simp) rfl) rfl
      have hK := fun (v : Value) (W2 : World) hW hT hv => hJ2.put hS 8 31 rfl (by omega) (W' := W2) hW hT v hv
      clear ho hall hl hQ
      generalize InvQ _ _ _ w0 a0 (lq.setIfInBounds 8 true) = K at hK ⊢
      clear hJ2 hS z1 z2 z3 z4 z6 z7
      go_simp
      exact hK _ _ z5 (fun _ _ h => h) rfl
    | 9, ho =>
      cases ho
      refine wpOp_of rfl rfl ?_
      have f8 : (aq.tmps.getD 31 undef) = .pointer (some ⟨g, f * 2, none⟩) := z6 8 31 (hall { on := 8, ground := Ground.data } (by simp) rfl) rfl
      have hK := fun (v : Value) (W2 : World) hW hT hv => hJ2.put hS 9 32 rfl (by omega) (W' := W2) hW hT v hv
      clear ho hall hl hQ
      generalize InvQ _ _ _ w0 a0 (lq.setIfInBounds 9 true) = K at hK ⊢
      clear hJ2 hS z1 z2 z3 z4 z6 z7
      go_simp
      exact hK _ _ z5 (fun _ _ h => h) rfl
    | 10, ho =>
      cases ho
      refine wpOp_of rfl rfl ?_
      have f4 : (aq.tmps.getD 27 undef) = .agg #[.int .i64 x, .int .i64 y] := z6 4 27 (hall { on := 4, ground := Ground.data } (by simp) rfl) rfl
      have f9 : (aq.tmps.getD 32 undef) = .agg #[.int .i64 u, .int .i64 t] := z6 9 32 (hall { on := 9, ground := Ground.data } (by simp) rfl) rfl
      have hK := fun (v : Value) (W2 : World) hW hT hv => hJ2.put hS 10 33 rfl (by omega) (W' := W2) hW hT v hv
      clear ho hall hl hQ
      generalize InvQ _ _ _ w0 a0 (lq.setIfInBounds 10 true) = K at hK ⊢
      clear hJ2 hS z1 z2 z3 z4 z6 z7
      go_simp
      refine (hA W).mono ?_
      rintro e v1 ⟨rfl, hBv⟩
      exact hK _ _ (z5.trans (hBv.mono z5.size)) (fun _ _ h => h.mono hBv) rfl
    | iq + 11, ho => simp at ho
  · intro lq aq W hJ hr
    obtain ⟨z1, z2, z3, z4, z5, z6, z7⟩ := hJ
    have hl := listed_of hr [0, 1, 2, 3, 4, 5, 6, 7, 8, 9, 10] [] (by simp) (by kernel_rfl) (by rw [z1]; decide)
    exact hQ aq W z2 z3 (fun e he => z4 e (by simpa using he)) (z6 10 33 (hl 10 (by simp)) rfl) z5
end Go.Proofs.Ytmjlgmoohpnhfaa

/- A ring's form: the drawn region that puts the two parts together. -/
namespace Go.Proofs.Ytmjlgmoohpnhfaa
open Go.RowKit
theorem ownF_slice {w : World} {base n : Nat} {e : TypeId} {size : Nat} {v : Value} {xs : List Value} (h : w.ownsRow base e size v n xs) : ∃ ao cap, v = .slice ao n cap := by
  rcases h.2 with ⟨h1, h0⟩ | ⟨g, cap, cur, hv, hb, _⟩
  · subst h0; exact ⟨none, 0, h1⟩
  · exact ⟨_, cap, hv⟩
theorem ownF_step {w w' : World} {base n : Nat} {e : TypeId} {size : Nat} {v : Value} {xs : List Value} (h : w.ownsRow base e size v n xs) (hB : Below w.heap.size w w') : w'.ownsRow base e size v n xs := by
  rcases h with ⟨h0, h1 | ⟨g, cap, cur, h1, h2, h3, h4⟩⟩
  · exact ⟨h0, .inl h1⟩
  · refine ⟨h0, .inr ⟨g, cap, cur, h1, h2, ?_, h4⟩⟩
    rw [hB.block g (Array.getElem?_eq_some_iff.1 h3).1]
    exact h3
theorem ownF_mono {w : World} {b b' n : Nat} {e : TypeId} {size : Nat} {v : Value} {xs : List Value} (h : w.ownsRow b' e size v n xs) (hb : b ≤ b') : w.ownsRow b e size v n xs := by
  rcases h with ⟨h0, h1 | ⟨g, cap, cur, h1, h2, h3⟩⟩
  · exact ⟨h0, .inl h1⟩
  · exact ⟨h0, .inr ⟨g, cap, cur, h1, Nat.le_trans hb h2, h3⟩⟩
theorem ownF_setO {w : World} {base n : Nat} {e : TypeId} {size : Nat} {v : Value} {xs : List Value} (h : w.ownsRow base e size v n xs) {p : Addr} (hp : p.block < base) (u : Value) : (w.setCell p u).ownsRow base e size v n xs := by
  rcases h with ⟨h0, h1 | ⟨g, cap, cur, h1, h2, h3, h4⟩⟩
  · exact ⟨h0, .inl h1⟩
  · refine ⟨h0, .inr ⟨g, cap, cur, h1, h2, ?_, h4⟩⟩
    rw [Below.heap_setCell _ _ _ _ (by omega)]
    exact h3
theorem spIn_setO {w : World} {g n : Nat} {q : Ps} {p : Addr} (h : SpIn w (some ⟨g, 0, none⟩) n q) (hp : g ≠ p.block) (u : Value) : SpIn (w.setCell p u) (some ⟨g, 0, none⟩) n q := fun i hi => by
  obtain ⟨A, off, e, hA, h1, h2⟩ := h i hi
  cases e
  exact ⟨g, 0, rfl, by simpa [World.setCell] using hA, (World.cell?_setCell_other _ _ _ _ (by intro e; apply hp; rw [e])).trans h1, (World.cell?_setCell_other _ _ _ _ (by intro e; apply hp; rw [e])).trans h2⟩
def VfmC (B4 R A1 g n cap f : Nat) (_q : Ps) (Lz : List Value) (_B : Nat) : Nat → Value → World → Prop
  | 0, v, _ => v = .pointer (some ⟨A1, 0, none⟩)
  | 1, v, _ => v = .slice (some ⟨g, 0, none⟩) n cap
  | 2, v, _ => v = .int .i64 (f : Nat)
  | 3, v, _ => v = .slice (some ⟨g, f * 2, none⟩) (n - f) (cap - f)
  | 4, v, _ => v = .pointer (some ⟨A1, 0, none⟩)
  | 5, v, _ => v = .slice (some ⟨g, 0, none⟩) n cap
  | 6, v, _ => v = .int .i64 (f : Nat)
  | 7, v, _ => v = .slice (some ⟨g, 0, none⟩) f cap
  | 8, v, W => ∃ gz, v = .slice (some ⟨gz, 0, none⟩) 2 2 ∧ gz ≠ R ∧ Blk W gz [.slice (some ⟨g, f * 2, none⟩) (n - f) (cap - f), .slice (some ⟨g, 0, none⟩) f cap]
  | 9, v, W => ∃ (go : Option Addr) (c : Nat), v = .slice go n c ∧ W.ownsRow B4 55 2 (.slice go n c) n Lz
  | 10, v, W => ∃ (go : Option Addr) (c : Nat), v = .agg #[.slice go n c] ∧ W.ownsRow B4 55 2 (.slice go n c) n Lz
  | 11, _, W => ∃ (go : Option Addr) (c : Nat), Blk W R [.slice go n c] ∧ W.ownsRow B4 55 2 (.slice go n c) n Lz
  | _, _, _ => True
theorem VfmC.mono {B4 R A1 g n cap f : Nat} {q : Ps} {Lz : List Value} {B j : Nat} {v : Value} {W W2 : World} (hB : Below W.heap.size W W2) (h : VfmC B4 R A1 g n cap f q Lz B j v W) : VfmC B4 R A1 g n cap f q Lz B j v W2 := by
  unfold VfmC at *
  split <;> simp only at h <;> first | exact h | (obtain ⟨gz, h1, h2, h3⟩ := h; exact ⟨gz, h1, h2, h3.step hB⟩) | (obtain ⟨x, y, h1, h2⟩ := h; exact ⟨x, y, h1, ownF_step h2 hB⟩) | (obtain ⟨x, y, h1, h2⟩ := h; exact ⟨x, y, h1.step hB, ownF_step h2 hB⟩) | trivial
theorem VfmC.put {B4 R A1 g n cap f : Nat} {q : Ps} {Lz : List Value} {B j : Nat} {v u : Value} {W : World} (nR : R < B4) (h : VfmC B4 R A1 g n cap f q Lz B j v W) (hz : ∃ (go : Option Addr) (c : Nat), Blk (W.setCell ⟨R, 0, none⟩ u) R [.slice go n c] ∧ (W.setCell ⟨R, 0, none⟩ u).ownsRow B4 55 2 (.slice go n c) n Lz) : VfmC B4 R A1 g n cap f q Lz B j v (W.setCell ⟨R, 0, none⟩ u) := by
  unfold VfmC at *
  split <;> simp only at h <;> first | exact h | exact hz | (obtain ⟨gz, h1, h2, h3⟩ := h; exact ⟨gz, h1, h2, h3.setO (p := ⟨R, 0, none⟩) h2 _⟩) | (obtain ⟨x, y, h1, h2⟩ := h; exact ⟨x, y, h1, ownF_setO h2 (show R < B4 from nR) _⟩) | trivial
def SfmC (_B4 R _A1 g n _cap _f : Nat) (q : Ps) (_Lz : List Value) (W : World) : Prop := SpIn W (some ⟨g, 0, none⟩) n q ∧ ∃ z, Blk W R [z]
def JfmC (B4 R A1 g n cap f : Nat) (q : Ps) (Lz : List Value) (w0 : World) (a0 : Act) (lz : Array Bool) (az : Act) (W : World) : Prop := InvQ (R) [some 32, some 33, some 34, some 35, some 36, some 37, some 38, some 39, some 40, some 41, some 42, none] (VfmC B4 R A1 g n cap f q Lz (R)) w0 a0 lz az W ∧ SfmC B4 R A1 g n cap f q Lz W
set_option maxRecDepth 100000 in
set_option maxHeartbeats 4000000 in
theorem fmC {Q : Exit → Act → World → Prop} {B4 R A1 g n cap f : Nat} {q : Ps} {Lz : List Value}  {w0 : World} {a0 : Act} {idq : Nat} {t0 t1 t2 t3 t4 t5 t6 t7 t8 t9 t10 t11 : TypeId} {q0 q1 q2 q3 q4 q5 q6 q7 q8 q9 q10 q11 : String}
    (fle : f ≤ n) (fce : f ≤ cap) (cne : ¬ cap = f) (nR : R < B4) (nB : B4 ≤ w0.heap.size) (ng : g ≠ R) (hC : ∀ AS w', Blk w' AS [.slice (some ⟨g, f * 2, none⟩) (n - f) (cap - f), .slice (some ⟨g, 0, none⟩) f cap] → SpIn w' (some ⟨g, 0, none⟩) n q → Calls Try.prog 42 #[.slice (some ⟨AS, 0, none⟩) 2 2] w' (fun e w'' => ∃ v, e = .returned v ∧ w''.ownsRow w'.heap.size 55 2 v n Lz ∧ Below w'.heap.size w' w'')) (h1 : a0.tmps[1]? = some (.pointer (some ⟨A1, 0, none⟩))) (h3 : a0.tmps[3]? = some (.int .i64 (f : Nat))) (h2 : a0.tmps[2]? = some (.pointer (some ⟨R, 0, none⟩))) (k0 : w0.cell? ⟨A1, 0, none⟩ = some (.slice (some ⟨g, 0, none⟩) n cap)) (l0 : (⟨A1, 0, none⟩ : Addr).block < R) (hz : a0.tmps.size = 43) (hs0 : SfmC B4 R A1 g n cap f q Lz w0.drew)
    (hQ : ∀ aq W, aq.tmps.size = a0.tmps.size → aq.defers = a0.defers → (∀ e, e ∉ ([32, 33, 34, 35, 36, 37, 38, 39, 40, 41, 42] : List Nat) → aq.tmps[e]? = a0.tmps[e]?) → VfmC B4 R A1 g n cap f q Lz (R) 11 undef W → Below (R) w0 W → SfmC B4 R A1 g n cap f q Lz W → Q .normal aq W) :
    (Code.region idq #[{ dst := some 32, op := Op.fieldAddr 28 (Operand.tmp 1) 0, type := t0, pos := q0, after := #[], guard := none },
    { dst := some 33, op := Op.load 26 (Operand.tmp 32), type := t1, pos := q1, after := #[{ on := 0, ground := Ground.data }], guard := none },
    { dst := some 34, op := Op.move (Operand.tmp 3), type := t2, pos := q2, after := #[], guard := none },
    { dst := some 35, op := Op.slice 26 (Operand.tmp 33) (some (Operand.tmp 34)) none none, type := t3, pos := q3, after := #[{ on := 1, ground := Ground.data }, { on := 2, ground := Ground.data }], guard := none },
    { dst := some 36, op := Op.fieldAddr 28 (Operand.tmp 1) 0, type := t4, pos := q4, after := #[], guard := none },
    { dst := some 37, op := Op.load 26 (Operand.tmp 36), type := t5, pos := q5, after := #[{ on := 4, ground := Ground.data }], guard := none },
    { dst := some 38, op := Op.move (Operand.tmp 3), type := t6, pos := q6, after := #[], guard := none },
    { dst := some 39, op := Op.slice 26 (Operand.tmp 37) none (some (Operand.tmp 38)) none, type := t7, pos := q7, after := #[{ on := 5, ground := Ground.data }, { on := 6, ground := Ground.data }], guard := none },
    { dst := some 40, op := Op.buildSlice 129 2 #[(0, Operand.tmp 35), (1, Operand.tmp 39)], type := t8, pos := q8, after := #[{ on := 3, ground := Ground.data }, { on := 7, ground := Ground.data }], guard := none },
    { dst := some 41, op := Op.call { callee := Callee.value (Operand.func 42), args := #[Operand.tmp 40], argTypes := #[129] }, type := t9, pos := q9, after := #[{ on := 8, ground := Ground.data }], guard := none },
    { dst := some 42, op := Op.build 28 #[(0, Operand.tmp 41)], type := t10, pos := q10, after := #[{ on := 9, ground := Ground.data }], guard := none },
    { dst := none, op := Op.store 28 (Operand.tmp 2) (Operand.tmp 42), type := t11, pos := q11, after := #[{ on := 10, ground := Ground.data }, { on := 9, ground := Ground.chain }, { on := 0, ground := Ground.phase }, { on := 1, ground := Ground.phase }, { on := 2, ground := Ground.phase }, { on := 3, ground := Ground.phase }, { on := 4, ground := Ground.phase }, { on := 5, ground := Ground.phase }, { on := 6, ground := Ground.phase }, { on := 7, ground := Ground.phase }, { on := 8, ground := Ground.phase }, { on := 9, ground := Ground.phase }, { on := 10, ground := Ground.phase }], guard := none }] true).wp Try.prog Q a0 w0 := by
  have hS : distS [some 32, some 33, some 34, some 35, some 36, some 37, some 38, some 39, some 40, some 41, some 42, none] = true := rfl
  refine wp_region_inv (by kernel_rfl) (JfmC B4 R A1 g n cap f q Lz w0 a0) ⟨⟨rfl, rfl, rfl, fun _ _ => rfl, (Below.refl _ w0).drew, fun j d hj => ?_, fun j hj => ?_⟩, hs0⟩ ?_ ?_
  · exfalso
    rw [Array.getD_eq_getD_getElem?, Array.getElem?_replicate] at hj
    split at hj <;> simp at hj
  · exfalso
    rw [Array.getD_eq_getD_getElem?, Array.getElem?_replicate] at hj
    split at hj <;> simp at hj
  · intro lq aq W iq oq ⟨hJ, hs⟩ hl ho hall
    have hJ2 := hJ
    obtain ⟨z1, z2, z3, z4, z5, z6, z7⟩ := hJ
    obtain ⟨xs, zr, xr⟩ := hs
    have rr0 := xr.c 0 rfl; have sr0 := xr.f 0 rfl; have lr := xr.lt
    have hs : SfmC B4 R A1 g n cap f q Lz W := ⟨xs, zr, xr⟩
    have g1 : aq.tmps.getD 1 undef = .pointer (some ⟨A1, 0, none⟩) := by rw [Array.getD_eq_getD_getElem?, z4 1 (by decide), h1]; rfl
    have g3 : aq.tmps.getD 3 undef = .int .i64 (f : Nat) := by rw [Array.getD_eq_getD_getElem?, z4 3 (by decide), h3]; rfl
    have g2 : aq.tmps.getD 2 undef = .pointer (some ⟨R, 0, none⟩) := by rw [Array.getD_eq_getD_getElem?, z4 2 (by decide), h2]; rfl
    have c0 : W.cell? ⟨A1, 0, none⟩ = some (.slice (some ⟨g, 0, none⟩) n cap) := (z5.cell l0).trans k0
    match iq, ho with
    | 0, ho =>
      cases ho
      refine wpOp_of rfl rfl ?_
      have hK := fun (v : Value) (W2 : World) hW hT hv (hs : SfmC B4 R A1 g n cap f q Lz W2) => show (JfmC B4 R A1 g n cap f q Lz w0 a0) (lq.setIfInBounds 0 true) (aq.put (some 32) v) W2 from ⟨hJ2.put hS 0 32 rfl (by omega) (W' := W2) hW hT v hv, hs⟩
      clear ho hall hl hQ
      generalize (JfmC B4 R A1 g n cap f q Lz w0 a0) (lq.setIfInBounds 0 true) = K at hK ⊢
      clear hJ2 hS z1 z2 z3 z4 z6 z7
      go_simp
      exact hK _ _ z5 (fun _ _ h => h) rfl hs
    | 1, ho =>
      cases ho
      refine wpOp_of rfl rfl ?_
      have f0 : (aq.tmps.getD 32 undef) = .pointer (some ⟨A1, 0, none⟩) := z6 0 32 (hall { on := 0, ground := Ground.data } (by simp) rfl) rfl
      have hK := fun (v : Value) (W2 : World) hW hT hv (hs : SfmC B4 R A1 g n cap f q Lz W2) => show (JfmC B4 R A1 g n cap f q Lz w0 a0) (lq.setIfInBounds 1 true) (aq.put (some 33) v) W2 from ⟨hJ2.put hS 1 33 rfl (by omega) (W' := W2) hW hT v hv, hs⟩
      clear ho hall hl hQ
      generalize (JfmC B4 R A1 g n cap f q Lz w0 a0) (lq.setIfInBounds 1 true) = K at hK ⊢
      clear hJ2 hS z1 z2 z3 z4 z6 z7
      go_simp
      exact hK _ _ z5 (fun _ _ h => h) rfl hs
    | 2, ho =>
      cases ho
      refine wpOp_of rfl rfl ?_
      have hK := fun (v : Value) (W2 : World) hW hT hv (hs : SfmC B4 R A1 g n cap f q Lz W2) => show (JfmC B4 R A1 g n cap f q Lz w0 a0) (lq.setIfInBounds 2 true) (aq.put (some 34) v) W2 from ⟨hJ2.put hS 2 34 rfl (by omega) (W' := W2) hW hT v hv, hs⟩
      clear ho hall hl hQ
      generalize (JfmC B4 R A1 g n cap f q Lz w0 a0) (lq.setIfInBounds 2 true) = K at hK ⊢
      clear hJ2 hS z1 z2 z3 z4 z6 z7
      go_simp
      exact hK _ _ z5 (fun _ _ h => h) rfl hs
    | 3, ho =>
      cases ho
      refine wpOp_of rfl rfl ?_
      have f1 : (aq.tmps.getD 33 undef) = .slice (some ⟨g, 0, none⟩) n cap := z6 1 33 (hall { on := 1, ground := Ground.data } (by simp) rfl) rfl
      have f2 : (aq.tmps.getD 34 undef) = .int .i64 (f : Nat) := z6 2 34 (hall { on := 2, ground := Ground.data } (by simp) rfl) rfl
      have hK := fun (v : Value) (W2 : World) hW hT hv (hs : SfmC B4 R A1 g n cap f q Lz W2) => show (JfmC B4 R A1 g n cap f q Lz w0 a0) (lq.setIfInBounds 3 true) (aq.put (some 35) v) W2 from ⟨hJ2.put hS 3 35 rfl (by omega) (W' := W2) hW hT v hv, hs⟩
      clear ho hall hl hQ
      generalize (JfmC B4 R A1 g n cap f q Lz w0 a0) (lq.setIfInBounds 3 true) = K at hK ⊢
      clear hJ2 hS z1 z2 z3 z4 z6 z7
      go_simp
      exact hK _ _ z5 (fun _ _ h => h) rfl hs
    | 4, ho =>
      cases ho
      refine wpOp_of rfl rfl ?_
      have hK := fun (v : Value) (W2 : World) hW hT hv (hs : SfmC B4 R A1 g n cap f q Lz W2) => show (JfmC B4 R A1 g n cap f q Lz w0 a0) (lq.setIfInBounds 4 true) (aq.put (some 36) v) W2 from ⟨hJ2.put hS 4 36 rfl (by omega) (W' := W2) hW hT v hv, hs⟩
      clear ho hall hl hQ
      generalize (JfmC B4 R A1 g n cap f q Lz w0 a0) (lq.setIfInBounds 4 true) = K at hK ⊢
      clear hJ2 hS z1 z2 z3 z4 z6 z7
      go_simp
      exact hK _ _ z5 (fun _ _ h => h) rfl hs
    | 5, ho =>
      cases ho
      refine wpOp_of rfl rfl ?_
      have f4 : (aq.tmps.getD 36 undef) = .pointer (some ⟨A1, 0, none⟩) := z6 4 36 (hall { on := 4, ground := Ground.data } (by simp) rfl) rfl
      have hK := fun (v : Value) (W2 : World) hW hT hv (hs : SfmC B4 R A1 g n cap f q Lz W2) => show (JfmC B4 R A1 g n cap f q Lz w0 a0) (lq.setIfInBounds 5 true) (aq.put (some 37) v) W2 from ⟨hJ2.put hS 5 37 rfl (by omega) (W' := W2) hW hT v hv, hs⟩
      clear ho hall hl hQ
      generalize (JfmC B4 R A1 g n cap f q Lz w0 a0) (lq.setIfInBounds 5 true) = K at hK ⊢
      clear hJ2 hS z1 z2 z3 z4 z6 z7
      go_simp
      exact hK _ _ z5 (fun _ _ h => h) rfl hs
    | 6, ho =>
      cases ho
      refine wpOp_of rfl rfl ?_
      have hK := fun (v : Value) (W2 : World) hW hT hv (hs : SfmC B4 R A1 g n cap f q Lz W2) => show (JfmC B4 R A1 g n cap f q Lz w0 a0) (lq.setIfInBounds 6 true) (aq.put (some 38) v) W2 from ⟨hJ2.put hS 6 38 rfl (by omega) (W' := W2) hW hT v hv, hs⟩
      clear ho hall hl hQ
      generalize (JfmC B4 R A1 g n cap f q Lz w0 a0) (lq.setIfInBounds 6 true) = K at hK ⊢
      clear hJ2 hS z1 z2 z3 z4 z6 z7
      go_simp
      exact hK _ _ z5 (fun _ _ h => h) rfl hs
    | 7, ho =>
      cases ho
      refine wpOp_of rfl rfl ?_
      have f5 : (aq.tmps.getD 37 undef) = .slice (some ⟨g, 0, none⟩) n cap := z6 5 37 (hall { on := 5, ground := Ground.data } (by simp) rfl) rfl
      have f6 : (aq.tmps.getD 38 undef) = .int .i64 (f : Nat) := z6 6 38 (hall { on := 6, ground := Ground.data } (by simp) rfl) rfl
      have hK := fun (v : Value) (W2 : World) hW hT hv (hs : SfmC B4 R A1 g n cap f q Lz W2) => show (JfmC B4 R A1 g n cap f q Lz w0 a0) (lq.setIfInBounds 7 true) (aq.put (some 39) v) W2 from ⟨hJ2.put hS 7 39 rfl (by omega) (W' := W2) hW hT v hv, hs⟩
      clear ho hall hl hQ
      generalize (JfmC B4 R A1 g n cap f q Lz w0 a0) (lq.setIfInBounds 7 true) = K at hK ⊢
      clear hJ2 hS z1 z2 z3 z4 z6 z7
      go_simp
      exact hK _ _ z5 (fun _ _ h => h) rfl hs
    | 8, ho =>
      cases ho
      refine wpOp_of rfl rfl ?_
      have f3 : (aq.tmps.getD 35 undef) = .slice (some ⟨g, f * 2, none⟩) (n - f) (cap - f) := z6 3 35 (hall { on := 3, ground := Ground.data } (by simp) rfl) rfl
      have f7 : (aq.tmps.getD 39 undef) = .slice (some ⟨g, 0, none⟩) f cap := z6 7 39 (hall { on := 7, ground := Ground.data } (by simp) rfl) rfl
      rw [Array.getD_eq_getD_getElem?] at f3 f7
      have hK := fun (v : Value) (W2 : World) hW hT hv (hs : SfmC B4 R A1 g n cap f q Lz W2) => show (JfmC B4 R A1 g n cap f q Lz w0 a0) (lq.setIfInBounds 8 true) (aq.put (some 40) v) W2 from ⟨hJ2.put hS 8 40 rfl (by omega) (W' := W2) hW hT v hv, hs⟩
      clear ho hall hl hQ
      generalize (JfmC B4 R A1 g n cap f q Lz w0 a0) (lq.setIfInBounds 8 true) = K at hK ⊢
      clear hJ2 hS z1 z2 z3 z4 z6 z7
      go_simp
      exact hK _ _ (z5.alloc (by have := z5.size; omega) _) (fun _ _ h => h.mono ((Below.refl _ _).alloc (Nat.le_refl _) _)) ⟨W.heap.size, rfl, by have := z5.size; omega, Blk.new W [.slice (some ⟨g, f * 2, none⟩) (n - f) (cap - f), .slice (some ⟨g, 0, none⟩) f cap] _ rfl⟩ ⟨xs.step ((Below.refl _ _).alloc (Nat.le_refl _) _), zr, xr.alloc _⟩
    | 9, ho =>
      cases ho
      refine wpOp_of rfl rfl ?_
      have f8 : ∃ gz, (aq.tmps.getD 40 undef) = .slice (some ⟨gz, 0, none⟩) 2 2 ∧ gz ≠ R ∧ Blk W gz [.slice (some ⟨g, f * 2, none⟩) (n - f) (cap - f), .slice (some ⟨g, 0, none⟩) f cap] := z6 8 40 (hall { on := 8, ground := Ground.data } (by simp) rfl) rfl
      have hK := fun (v : Value) (W2 : World) hW hT hv (hs : SfmC B4 R A1 g n cap f q Lz W2) => show (JfmC B4 R A1 g n cap f q Lz w0 a0) (lq.setIfInBounds 9 true) (aq.put (some 41) v) W2 from ⟨hJ2.put hS 9 41 rfl (by omega) (W' := W2) hW hT v hv, hs⟩
      clear ho hall hl hQ
      generalize (JfmC B4 R A1 g n cap f q Lz w0 a0) (lq.setIfInBounds 9 true) = K at hK ⊢
      clear hJ2 hS z1 z2 z3 z4 z6 z7
      obtain ⟨gz, e8, n8, X8⟩ := f8
      have zs := z5.size
      go_simp
      refine (hC gz W X8 xs).mono ?_
      rintro e v1 ⟨v, rfl, O, hBv⟩
      obtain ⟨go, co, rfl⟩ := ownF_slice O
      exact hK _ _ (z5.trans (hBv.mono (by omega))) (fun _ _ h => h.mono hBv) ⟨go, co, rfl, ownF_mono O (by omega)⟩ ⟨xs.step hBv, zr, xr.step hBv⟩
    | 10, ho =>
      cases ho
      refine wpOp_of rfl rfl ?_
      have f9 : ∃ (go : Option Addr) (c : Nat), (aq.tmps.getD 41 undef) = .slice go n c ∧ W.ownsRow B4 55 2 (.slice go n c) n Lz := z6 9 41 (hall { on := 9, ground := Ground.data } (by simp) rfl) rfl
      obtain ⟨go, co, e9, O⟩ := f9
      rw [Array.getD_eq_getD_getElem?] at e9
      have hK := fun (v : Value) (W2 : World) hW hT hv (hs : SfmC B4 R A1 g n cap f q Lz W2) => show (JfmC B4 R A1 g n cap f q Lz w0 a0) (lq.setIfInBounds 10 true) (aq.put (some 42) v) W2 from ⟨hJ2.put hS 10 42 rfl (by omega) (W' := W2) hW hT v hv, hs⟩
      clear ho hall hl hQ
      generalize (JfmC B4 R A1 g n cap f q Lz w0 a0) (lq.setIfInBounds 10 true) = K at hK ⊢
      clear hJ2 hS z1 z2 z3 z4 z6 z7
      go_simp
      exact hK _ _ z5 (fun _ _ h => h) ⟨go, co, rfl, O⟩ hs
    | 11, ho =>
      cases ho
      refine wpOp_of rfl rfl ?_
      have f10 : ∃ (go : Option Addr) (c : Nat), (aq.tmps.getD 42 undef) = .agg #[.slice go n c] ∧ W.ownsRow B4 55 2 (.slice go n c) n Lz := z6 10 42 (hall { on := 10, ground := Ground.data } (by simp) rfl) rfl
      have hK := fun (W2 : World) hW hT hv (hs : SfmC B4 R A1 g n cap f q Lz W2) => show (JfmC B4 R A1 g n cap f q Lz w0 a0) (lq.setIfInBounds 11 true) aq W2 from ⟨hJ2.world 11 rfl (W' := W2) hW hT hv, hs⟩
      clear ho hall hl hQ
      generalize (JfmC B4 R A1 g n cap f q Lz w0 a0) (lq.setIfInBounds 11 true) = K at hK ⊢
      clear hJ2 hS z1 z2 z3 z4 z6 z7
      obtain ⟨go, co, e10, O⟩ := f10
      have nb : Blk (W.setCell ⟨R, 0, none⟩ (.slice go n co)) R [.slice go n co] := xr.setI 0 (by simp) _
      have no : (W.setCell ⟨R, 0, none⟩ (.slice go n co)).ownsRow B4 55 2 (.slice go n co) n Lz := ownF_setO O (show R < B4 from nR) _
      have ns : SfmC B4 R A1 g n cap f q Lz (W.setCell ⟨R, 0, none⟩ (.slice go n co)) := ⟨spIn_setO xs ng _, _, nb⟩
      have nB2 : Below R w0 (W.setCell ⟨R, 0, none⟩ (.slice go n co)) := z5.setCell (p := ⟨R, 0, none⟩) (Nat.le_refl _) _
      clear xs xr
      go_simp
      exact hK _ nB2 (fun _ _ h => VfmC.put nR h ⟨go, co, nb, no⟩) ⟨go, co, nb, no⟩ ns
    | iq + 12, ho => simp at ho
  · intro lq aq W ⟨hJ, hs⟩ hr
    obtain ⟨z1, z2, z3, z4, z5, z6, z7⟩ := hJ
    have hl := listed_of hr [0, 1, 2, 3, 4, 5, 6, 7, 8, 9, 10, 11] [] (by simp) (by kernel_rfl) (by rw [z1]; decide)
    exact hQ aq W z2 z3 (fun e he => z4 e (by simpa using he)) (z7 11 (hl 11 (by simp)) rfl) z5 hs
end Go.Proofs.Ytmjlgmoohpnhfaa

/- Rings of their own memory: held against one another, marked, held again. -/
namespace Go.Proofs.Ytmjlgmoohpnhfaa
open Go.RowKit
theorem SpOwn.step {w w' : World} {base : Nat} {v : Value} {n : Nat} {p : Ps} (h : SpOwn w base v n p) (hB : Below w.heap.size w w') : SpOwn w' base v n p := by
  rcases h with h | ⟨g, cap, f, h1, h2, h3, h4, h5, h6⟩
  · exact .inl h
  · exact .inr ⟨g, cap, f, h1, h2, h3, h4, rows_step h5 hB, h6⟩
theorem SpOwn.in {w : World} {base : Nat} {v : Value} {n : Nat} {p : Ps} (h : SpOwn w base v n p) : ∃ ao cap, v = .slice ao n cap ∧ SpIn w ao n p := by
  rcases h with ⟨h1, rfl⟩ | ⟨g, cap, f, h1, h2, h3, h4, h5, h6⟩
  · exact ⟨none, 0, h1, fun i hi => by omega⟩
  · have R : w.rowIs g 55 (cap * 2) f := h5
    refine ⟨some ⟨g, 0, none⟩, cap, h1, fun i hi => ⟨g, 0, rfl, R.lt, ?_, ?_⟩⟩
    · rw [Nat.zero_add, R.cell (by omega), h6 _ (by omega), spW0]
    · rw [Nat.zero_add, R.cell (by omega), h6 _ (by omega), spW1]
theorem SpOwn.lt {w : World} {base : Nat} {v : Value} {n : Nat} {p : Ps} (h : SpOwn w base v n p) {g : Nat} (hg : v.ownBlock = some g) : base ≤ g ∧ g < w.heap.size := by
  rcases h with ⟨h1, _⟩ | ⟨g', cap, f, h1, h2, h3, h4, h5, h6⟩
  · subst h1; cases hg
  · subst h1; cases hg; exact ⟨h2, h5.lt⟩
theorem OtherB.sown {h : Option Nat} {w w' : World} (k : OtherB h w w') {base : Nat} {v : Value} {n : Nat} {p : Ps} (r : SpOwn w base v n p) (hne : ∀ g, v.ownBlock = some g → some g ≠ h) : SpOwn w' base v n p := by
  rcases r with r | ⟨g, cap, f, h1, h2, h3, h4, h5, h6⟩
  · exact .inl r
  · exact .inr ⟨g, cap, f, h1, h2, h3, h4, k.row (hne g (by subst h1; rfl)) h5, h6⟩
theorem SpOwn.row {w : World} {base g n : Nat} {p : Ps} (R : w.rowIs g 55 (n * 2) (fun i => .int .i64 (spW p i))) (hb : base ≤ g) (hn : n ≤ 1048576) : SpOwn w base (.slice (some ⟨g, 0, none⟩) n n) n p :=
  .inr ⟨g, n, _, rfl, hb, Nat.le_refl _, by unfold maxLen; omega, R, fun _ _ => rfl⟩
theorem eqRing_own {v v' : Value} {n : Nat} {p : Ps} {b b' : Nat} (hn : n ≤ 1048576) (w : World) (h : SpOwn w b v n p) (h' : SpOwn w b' v' n p) : Calls Try.prog 12 #[.agg #[v], .agg #[v']] w (BoolP true w) := by
  obtain ⟨ao, cap, rfl, hI⟩ := h.in
  obtain ⟨bo, cap', rfl, hI'⟩ := h'.in
  exact eqRing_any ao bo n cap cap' p hn w hI hI'
theorem OtherB.trans {h : Option Nat} {a b c : World} (k : OtherB h a b) (l : OtherB h b c) : OtherB h a c :=
  ⟨fun g hne hg => (l.1 g hne (Nat.lt_of_lt_of_le hg k.2.1)).trans (k.1 g hne hg), Nat.le_trans k.2.1 l.2.1, fun w0 hb H => l.2.2 w0 hb (k.2.2 w0 hb H)⟩
/-- 1, 2 and so on. -/
def mkP : Ps := fun k => ((k : Int) * 2 + 1, (k : Int) * 2 + 2)
theorem mkP_at (i : Nat) : spW mkP i = (i : Int) + 1 := by
  unfold spW mkP
  split
  · show ((i / 2 : Nat) : Int) * 2 + 1 = _
    omega
  · show ((i / 2 : Nat) : Int) * 2 + 2 = _
    omega
set_option maxRecDepth 100000 in
set_option maxHeartbeats 2000000 in
theorem markSpotS_any (v : Value) (n : Nat) (p : Ps) (base : Nat) (hn : n ≤ 1048576) (w : World) (hO : SpOwn w base v n p) : Calls Try.prog 43 #[v, .int .i64 1] w (fun e w' => e = .returned (.int .i64 ((n : Int) * 2 + 1)) ∧ SpOwn w' base v n mkP ∧ OtherB v.ownBlock w w') := by
  rcases hO with ⟨rfl, rfl⟩ | ⟨g, cap, f, rfl, hg, hc, hm, R, hf⟩
  · go_enter Try.func43, Try.ntmps43
    go_wp2_with fail
    go_loopw [1, 5] (fun o i wr => o = .int .i64 1 ∧ i = .int .i64 0 ∧ wr = w) (fun _ i _ => 0)
    case atStart => exact ⟨rfl, rfl, rfl⟩
    case round =>
      obtain ⟨rfl, rfl, rfl⟩ := hrel
      go_wp2
      go_ret
      exact ⟨rfl, .inl ⟨rfl, rfl⟩, OtherB.refl _ _⟩
  · have HR : Hid (w.rowIs g 55 (cap * 2) f ∧ ∀ i, i < n * 2 → f i = .int .i64 (spW p i)) := ⟨R, hf⟩
    clear R hf
    have hnI : (n : Int) ≤ 1048576 := by omega
    go_enter Try.func43, Try.ntmps43
    go_wp2_with fail
    go_loopw [1, 5] (fun o i wr => ∃ c : Nat, c ≤ n ∧ o = .int .i64 ((c : Int) * 2 + 1) ∧ i = .int .i64 c ∧ (∃ f, wr.rowIs g 55 (cap * 2) f ∧ (∀ i, i < n * 2 → ∃ z, f i = .int .i64 z) ∧ ∀ i, i < c * 2 → f i = .int .i64 ((i : Int) + 1)) ∧ OtherB (some g) w wr) (fun _ i _ => n - (intOf i).toNat)
    case atStart => exact ⟨0, by omega, rfl, rfl, ⟨f, HR.out.1, fun i hi => ⟨_, HR.out.2 i hi⟩, fun i hi => by omega⟩, OtherB.refl _ _⟩
    case round =>
      obtain ⟨c, hcn, rfl, rfl, ⟨f', R, hz, hd⟩, K⟩ := hrel
      by_cases hlt : c < n
      · have hcI : (c : Int) < n := by omega
        obtain ⟨z0, e0⟩ := hz (c * 2) (by omega)
        obtain ⟨z1, e1⟩ := hz (c * 2 + 1) (by omega)
        have o0 := R.cell (i := c * 2) (by omega)
        have o1 := R.cell (i := c * 2 + 1) (by omega)
        rw [e0] at o0
        rw [e1] at o1
        have f0 := R.frozen (c * 2); have f1 := R.frozen (c * 2 + 1)
        have RN := (R.set (c * 2) (.int .i64 ((c : Int) * 2 + 1))).set (c * 2 + 1) (.int .i64 ((c : Int) * 2 + 1 + 1))
        have KN := (K.set (c * 2) (.int .i64 ((c : Int) * 2 + 1))).set (c * 2 + 1) (.int .i64 ((c : Int) * 2 + 1 + 1))
        have RD : Hid (∃ f2, ((wr.setCell ⟨g, c * 2, none⟩ (.int .i64 ((c : Int) * 2 + 1))).setCell ⟨g, c * 2 + 1, none⟩ (.int .i64 ((c : Int) * 2 + 1 + 1))).rowIs g 55 (cap * 2) f2 ∧ (∀ i, i < n * 2 → ∃ z, f2 i = .int .i64 z) ∧ ∀ i, i < (c + 1) * 2 → f2 i = .int .i64 ((i : Int) + 1)) :=
          ⟨_, RN, fun i hi => by
            show ∃ z, (if i = c * 2 + 1 then _ else if i = c * 2 then _ else f' i) = Value.int .i64 z
            split
            · exact ⟨_, rfl⟩
            · split
              · exact ⟨_, rfl⟩
              · exact hz i hi, fun i hi => by
            show (if i = c * 2 + 1 then _ else if i = c * 2 then _ else f' i) = Value.int .i64 _
            by_cases h1 : i = c * 2 + 1
            · rw [if_pos h1, h1]; congr 1
            · rw [if_neg h1]
              by_cases h2 : i = c * 2
              · rw [if_pos h2, h2]; congr 1
              · rw [if_neg h2]; exact hd i (by omega)⟩
        clear R K hz hd e0 e1 RN
        go_wp2
        go_roundw
        case rel => exact ⟨c + 1, by omega, by go_num, by go_num, RD.out, KN⟩
        case measure => simp [intOf]; omega
      · obtain rfl : c = n := by omega
        have HF : Hid (∀ i, i < c * 2 → f' i = .int .i64 (spW mkP i)) := fun i hi => by rw [hd i hi, mkP_at]
        clear hz hd
        go_wp2
        go_ret
        exact ⟨rfl, .inr ⟨g, cap, f', rfl, hg, hc, hm, R, HF.out⟩, K⟩
set_option maxRecDepth 100000 in
set_option maxHeartbeats 2000000 in
theorem heldSpotS_any (v : Value) (n : Nat) (base : Nat) (hn : n ≤ 1048576) (w : World) (hO : SpOwn w base v n mkP) : Calls Try.prog 44 #[v, .int .i64 1] w (VP (.int .i64 ((n : Int) * 2 + 1)) w) := by
  obtain ⟨ao, cap, rfl, HI⟩ := hO.in
  have HR : Hid (SpIn w ao n mkP) := HI
  clear HI hO
  have hnI : (n : Int) ≤ 1048576 := by omega
  go_enter Try.func44, Try.ntmps44
  go_wp2_with fail
  go_loopw [1, 5] (fun o i wr => ∃ c : Nat, c ≤ n ∧ o = .int .i64 ((c : Int) * 2 + 1) ∧ i = .int .i64 c ∧ Below w.heap.size w wr) (fun _ i _ => n - (intOf i).toNat)
  case atStart => exact ⟨0, by omega, rfl, rfl, Below.refl _ _⟩
  case round =>
    obtain ⟨c, hcn, rfl, rfl, HB⟩ := hrel
    by_cases hlt : c < n
    · have hcI : (c : Int) < n := by omega
      obtain ⟨A, off, rfl, hA, h0, h1⟩ := HR.out.step HB c hlt
      have q0 : wr.cell? ⟨A, off + c * 2, none⟩ = some (.int .i64 ((c : Int) * 2 + 1)) := h0
      have q1 : wr.cell? ⟨A, off + c * 2 + 1, none⟩ = some (.int .i64 ((c : Int) * 2 + 1 + 1)) := by
        refine h1.trans ?_
        show some (Value.int .i64 ((c : Int) * 2 + 2)) = _
        congr 2
      clear h0 h1
      go_wp2
      go_roundw
      case rel => exact ⟨c + 1, by omega, by go_num, by go_num, HB⟩
      case measure => simp [intOf]; omega
    · obtain rfl : c = n := by omega
      go_wp2
      go_ret
      exact ⟨rfl, HB⟩
set_option maxRecDepth 100000 in
set_option maxHeartbeats 2000000 in
theorem markRing_any (v : Value) (n : Nat) (p : Ps) (base : Nat) (hn : n ≤ 1048576) (w : World) (hO : SpOwn w base v n p) : Calls Try.prog 13 #[.agg #[v], .int .i64 1] w (fun e w' => e = .returned (.int .i64 ((n : Int) * 2 + 1)) ∧ SpOwn w' base v n mkP ∧ OtherB v.ownBlock w w') := by
  obtain ⟨ao, cap, rfl, _⟩ := hO.in
  have hB0 : Below w.heap.size w (w.alloc (.cells #[.slice ao n cap] 28)) := (Below.refl _ _).alloc (Nat.le_refl _) _
  have K0 : OtherB (Value.slice ao n cap).ownBlock w (w.alloc (.cells #[.slice ao n cap] 28)) := (OtherB.refl _ w).step hB0
  have C := markSpotS_any (.slice ao n cap) n p base hn _ (hO.step hB0)
  clear hO
  go_enter Try.func13, Try.ntmps13
  go_wp2_with fail
  revert C K0
  generalize w.alloc (.cells #[.slice ao n cap] 28) = W
  intro K0 C
  refine C.mono ?_
  rintro e w1 ⟨rfl, HO, K⟩
  have HK : Hid (OtherB (Value.slice ao n cap).ownBlock w w1) := OtherB.trans K0 K
  have HOO : Hid (SpOwn w1 base (.slice ao n cap) n mkP) := HO
  clear HO K K0 C hB0
  go_wp2
  go_ret
  exact ⟨rfl, HOO.out, HK.out⟩
set_option maxRecDepth 100000 in
set_option maxHeartbeats 2000000 in
theorem heldRing_any (v : Value) (n : Nat) (base : Nat) (hn : n ≤ 1048576) (w : World) (hO : SpOwn w base v n mkP) : Calls Try.prog 14 #[.agg #[v], .int .i64 1] w (VP (.int .i64 ((n : Int) * 2 + 1)) w) := by
  obtain ⟨ao, cap, rfl, _⟩ := hO.in
  have hB0 : Below w.heap.size w (w.alloc (.cells #[.slice ao n cap] 28)) := (Below.refl _ _).alloc (Nat.le_refl _) _
  have C := heldSpotS_any (.slice ao n cap) n base hn _ (hO.step hB0)
  have hp : ¬ ((n : Int) * 2 + 1 < 0) := by omega
  clear hO
  go_enter Try.func14, Try.ntmps14
  go_wp2_with fail
  revert C hB0
  generalize w.alloc (.cells #[.slice ao n cap] 28) = W
  intro hB0 C
  refine C.mono ?_
  rintro e w1 ⟨rfl, hB⟩
  have HB := hB0.trans (hB.mono hB0.size)
  clear hB hB0 C
  go_wp2
  go_ret
  exact ⟨rfl, HB⟩
end Go.Proofs.Ytmjlgmoohpnhfaa

/- A ring's form: the program's walk. -/
namespace Go.Proofs.Ytmjlgmoohpnhfaa
open Go.RowKit
set_option maxRecDepth 100000 in
set_option maxHeartbeats 8000000 in
theorem implForm_any (g n cap : Nat) (p : Ps) (hn : n ≤ 1048576) (hcap : n ≤ cap) (hcap2 : cap ≤ 9223372036854775807) (w : World) (R : w.rowIs g 55 (n * 2) (fun i => .int .i64 (spW p i))) :
    Calls Try.prog 11 #[.agg #[.slice (some ⟨g, 0, none⟩) n cap]] w (RingP (tuN n p) (fmP n p) w) := by
  have C1 := fun w h => rright_any (some ⟨g, 0, none⟩) n cap p hn hcap hcap2 w h
  have hgl := R.lt
  have HB0 : Below w.heap.size w ((w.alloc (.cells #[.slice (some ⟨g, 0, none⟩) n cap] 28)).alloc (.cells #[.slice none 0 0] 28)) := ((Below.refl _ _).alloc (Nat.le_refl _) _).alloc (by simp) _
  have BA : Blk ((w.alloc (.cells #[.slice (some ⟨g, 0, none⟩) n cap] 28)).alloc (.cells #[.slice none 0 0] 28)) w.heap.size [.slice (some ⟨g, 0, none⟩) n cap] := (Blk.new w [.slice (some ⟨g, 0, none⟩) n cap] 28 rfl).alloc _
  have BR : Blk ((w.alloc (.cells #[.slice (some ⟨g, 0, none⟩) n cap] 28)).alloc (.cells #[.slice none 0 0] 28)) (w.heap.size + 1) [.slice none 0 0] := Blk.new (w.alloc (.cells #[.slice (some ⟨g, 0, none⟩) n cap] 28)) [.slice none 0 0] 28 (by simp)
  go_enter Try.func11, Try.ntmps11
  go_wp2_with fail
  replace R := rows_step R HB0
  revert HB0 BR BA R
  generalize ((w.alloc (.cells #[.slice (some ⟨g, 0, none⟩) n cap] 28)).alloc (.cells #[.slice none 0 0] 28)) = W2
  intro HB0 BA BR R
  refine (C1 _ (spIn_row R)).mono ?_
  rintro e w1 ⟨rfl, hB⟩
  replace HB0 := HB0.trans (hB.mono HB0.size)
  replace BR := BR.step hB
  replace BA := BA.step hB
  replace R := rows_step R hB
  clear hB C1
  by_cases h : rgF n p = 0
  · rw [decide_eq_true h]
    have HN : Hid (tuN n p = n) := by show _ = _; unfold tuN; rw [if_pos h]
    obtain ⟨h3, h12, hok, _⟩ := rgF_okA h
    have C2 := fun w R => area2_any (some ⟨g, 0, none⟩) n cap p h12 hok w R
    have C3 := fun w R => turned_any g n cap p h3 hn w R
    clear h hok
    go_upto_region 3 with fail
    go_cut [12] (fun pv wx => pv = .bool (decide (arA n p n < 0)) ∧ Below w.heap.size w wx ∧ Blk wx w.heap.size [.slice (some ⟨g, 0, none⟩) n cap] ∧ Blk wx (w.heap.size + 1) [.slice none 0 0] ∧ wx.rowIs g 55 (n * 2) (fun i => .int .i64 (spW p i)))
    case first =>
      have a0 := BA.c 0 rfl
      go_wp2_with fail
      clear a0
      refine (C2 _ (spIn_row R)).mono ?_
      rintro e w2 ⟨rfl, hB⟩
      go_wp2
      go_meet
      case rel => exact ⟨rfl, HB0.trans (hB.mono HB0.size), BA.step hB, BR.step hB, rows_step R hB⟩
    case rest =>
      clear HB0 BA BR R C2
      obtain ⟨rfl, HB0, BA, BR, R⟩ := hcut
      rename_i hk
      refine hk _ _ ?_
      clear hk
      go_cut [] (fun wx => ∃ gq cq, n ≤ cq ∧ gq ≠ w.heap.size + 1 ∧ gq ≠ w.heap.size ∧ Below w.heap.size w wx ∧ Blk wx w.heap.size [.slice (some ⟨gq, 0, none⟩) n cq] ∧ Blk wx (w.heap.size + 1) [.slice none 0 0] ∧ SpIn wx (some ⟨gq, 0, none⟩) n (upP n p))
      case first =>
        by_cases har : arA n p n < 0
        · rw [decide_eq_true har]
          have HU : Hid (upP n p = turnP n p) := by show _ = _; unfold upP; rw [if_pos har]
          have a0 := BA.c 0 rfl; have af := BA.f 0 rfl; have al := BA.lt
          go_wp2_with fail
          clear a0 af al
          refine (C3 _ R).mono ?_
          rintro e w2 ⟨v, rfl, HO, hB⟩
          replace HB0 := HB0.trans (hB.mono HB0.size)
          have hsz := BR.lt
          have hsz2 := BA.lt
          replace BR := BR.step hB
          replace BA := BA.step hB
          rcases HO with ⟨_, h0⟩ | ⟨gq, cq, f, rfl, hgq, hcq, hmx, RQ, hf⟩
          · omega
          have S : SpIn w2 (some ⟨gq, 0, none⟩) n (turnP n p) := by
            have O : SpOwn w2 (w.heap.size + 2) (.slice (some ⟨gq, 0, none⟩) n cq) n (turnP n p) := .inr ⟨gq, cq, f, rfl, by omega, hcq, hmx, RQ, hf⟩
            obtain ⟨ao, cap, e, h⟩ := SpOwn.in O
            cases e
            exact h
          have a0 := BA.c 0 rfl; have af := BA.f 0 rfl; have al := BA.lt
          go_wp2
          go_meet
          case rel => exact ⟨gq, cq, hcq, by omega, by omega, HB0.setCell (by simp) _, BA.setI 0 (by simp) _, BR.setO (by simp) _, by rw [HU.out]; exact spIn_setO S (by simp; omega) _⟩
        · rw [decide_eq_false har]
          have HU : Hid (upP n p = p) := by show _ = _; unfold upP; rw [if_neg har]
          clear har
          go_wp2
          go_meet
          case rel => exact ⟨g, cap, hcap, by omega, by omega, HB0, BA, BR, by rw [HU.out]; exact spIn_row R⟩
      case rest =>
        clear HB0 BA BR R C3
        obtain ⟨gq, cq, hcq, hg1, hg0, HB0, BA, BR, S⟩ := hcut
        rename ∀ (a : Act) (w_1 : World), Code.wp _ _ _ _ _ → _ => hk
        refine hk _ _ ?_
        clear hk
        have HC : Hid (n ≤ cq) := hcq
        have HSZ : Hid (w.heap.size + 2 ≤ wc.heap.size) := BR.lt
        have HS : Hid (SpIn wc (some ⟨gq, 0, none⟩) n (upP n p)) := S
        have a0 := BA.c 0 rfl; have af := BA.f 0 rfl
        clear S hcq
        go_wp2_with fail
        clear a0 af
        go_loopw [3, 18] (fun l i wr => ∃ c : Nat, c ≤ n ∧ i = .int .i64 c ∧ l = .int .i64 (lsI (upP n p) (c - 1)) ∧ Below wc.heap.size wc wr) (fun _ i _ => n - (intOf i).toNat)
        case atStart => exact ⟨0, by omega, rfl, rfl, Below.refl _ _⟩
        case round =>
          obtain ⟨c, hc, rfl, rfl, HB⟩ := hrel
          by_cases hcn : c < n
          · obtain ⟨A, off, e, hA, q0, q1⟩ := HS.out.step HB c hcn
            cases e
            rw [Nat.zero_add] at q0 q1
            have hcI : (c : Int) < n := by omega
            have hl : lsI (upP n p) (c - 1) ≤ c - 1 := lsI_le _ _
            have hlI : ((lsI (upP n p) (c - 1) : Nat) : Int) < (n : Int) := by omega
            obtain ⟨A, off, e, hA2, q2, q3⟩ := HS.out.step HB (lsI (upP n p) (c - 1)) (by omega)
            cases e
            rw [Nat.zero_add] at q2 q3
            have NX : Hid (lsI (upP n p) c = if lessI (upP n p c).1 (upP n p c).2 (upP n p (lsI (upP n p) (c - 1))).1 (upP n p (lsI (upP n p) (c - 1))).2 = true then c else lsI (upP n p) (c - 1)) := by
              show _ = _
              cases c with
              | zero => simp [lsI]
              | succ c => rfl
            have HBA : Hid (Blk wr w.heap.size [.slice (some ⟨gq, 0, none⟩) n cq]) := BA.step HB
            go_upto_region 9 with fail
            revert NX q0 q1 q2 q3 hlI
            generalize lsI (upP n p) (c - 1) = l
            intro q0 q1 hlI q2 q3 NX
            have X5 := Blk.new wr [.int .i64 (upP n p c).1, .int .i64 (upP n p c).2] 55 rfl
            have X1 := HBA.out.alloc (.cells #[.int .i64 (upP n p c).1, .int .i64 (upP n p c).2] 55)
            have HBN : Below wr.heap.size wr (wr.alloc (.cells #[.int .i64 (upP n p c).1, .int .i64 (upP n p c).2] 55)) := (Below.refl _ _).alloc (Nat.le_refl _) _
            have S2 := (HS.out.step HB).step HBN
            obtain ⟨A, off, e, hA3, q4, q5⟩ := S2 l (by omega)
            cases e
            rw [Nat.zero_add] at q4 q5
            refine fmI (A1 := w.heap.size) (g := gq) (n := n) (cap := cq) (f := l) (x := (upP n p c).1) (y := (upP n p c).2) (u := (upP n p l).1) (t := (upP n p l).2) (b := lessI (upP n p c).1 (upP n p c).2 (upP n p l).1 (upP n p l).2) (A5 := wr.heap.size) hlI (fun w' => isAhead_any _ _ _ _ _ rfl w') rfl rfl rfl (X5.c 0 rfl) X5.lt (X5.c 1 rfl) X5.lt (X1.c 0 rfl) X1.lt q4 hA3 q5 hA3 rfl ?_
            rintro ⟨tm, df⟩ Wz hz hdf hoff hV hBz
            simp only at hz hdf hoff hV
            subst hdf
            have htm := tmps_fold [23, 24, 25, 26, 27, 28, 29] tm _ hz hoff
            simp only [List.foldl, List.setIfInBounds_toArray, List.set_cons_zero, List.set_cons_succ] at htm
            clear hz hoff
            have hV2 : tm.getD 29 undef = .bool (lessI (upP n p c).1 (upP n p c).2 (upP n p l).1 (upP n p l).2) := hV
            rw [hV2] at htm
            clear hV hV2
            generalize tm.getD 23 undef = sl0, tm.getD 24 undef = sl1, tm.getD 25 undef = sl2, tm.getD 26 undef = sl3, tm.getD 27 undef = sl4, tm.getD 28 undef = sl5 at htm
            subst htm
            replace HB := (HB.trans (HBN.mono HB.size)).trans (hBz.mono (HB.trans (HBN.mono HB.size)).size)
            clear X5 X1 HBN S2 q0 q1 q2 q3 q4 q5 hBz HBA hA hA2 hA3
            have NX2 := NX.out
            clear NX
            cases hb : lessI (upP n p c).1 (upP n p c).2 (upP n p l).1 (upP n p l).2 with
            | true =>
              rw [hb, if_pos rfl] at NX2
              have NX : Hid (lsI (upP n p) c = c) := NX2
              clear NX2 hb
              go_wp2
              go_roundw
              case rel => exact ⟨c + 1, by omega, by go_num, by rw [Nat.add_sub_cancel, NX.out], HB⟩
              case measure => simp [intOf]; omega
            | false =>
              rw [hb, if_neg (by simp)] at NX2
              have NX : Hid (lsI (upP n p) c = l) := NX2
              clear NX2 hb
              go_wp2
              go_roundw
              case rel => exact ⟨c + 1, by omega, by go_num, by rw [Nat.add_sub_cancel, NX.out], HB⟩
              case measure => simp [intOf]; omega
          · obtain rfl : c = n := by omega
            have hl : lsI (upP c p) (c - 1) ≤ c - 1 := lsI_le _ _
            have HL : Hid (fmP c p = fun k => upP c p ((lsI (upP c p) (c - 1) + k) % c)) := rfl
            have HBA : Hid (Blk wr w.heap.size [.slice (some ⟨gq, 0, none⟩) c cq]) := BA.step HB
            have HBR : Hid (Blk wr (w.heap.size + 1) [.slice none 0 0]) := BR.step HB
            have S2 : Hid (SpIn wr (some ⟨gq, 0, none⟩) c (upP c p)) := HS.out.step HB
            have hcq := HC.out
            have hsz := HSZ.out
            have hsz2 := HB.size
            have HT := HB0.trans (HB.mono HB0.size)
            have hlI : ((lsI (upP c p) (c - 1) : Nat) : Int) < (c : Int) := by omega
            clear HB0 HB BA BR HS
            revert hl HL hlI
            generalize lsI (upP c p) (c - 1) = l
            intro hl HL hlI
            go_upto_region 12 with fail
            refine fmC (B4 := w.heap.size + 2) (R := w.heap.size + 1) (A1 := w.heap.size) (g := gq) (n := c) (cap := cq) (f := l) (q := upP c p) (Lz := spL c (fmP c p)) (by omega) (by omega) (by omega) (by omega) (by omega) hg1 (fun AS w' A S => by rw [HL.out, ← spF_rot _ (by omega)]; exact concat_any AS gq c l _ _ _ (by omega) h12 w' A S) rfl rfl rfl (HBA.out.c 0 rfl) (by simp) rfl ⟨S2.out, _, HBR.out.drew⟩ ?_
            rintro ⟨tm, df⟩ Wz hz hdf hoff ⟨go, c', F0, F1⟩ hBz _
            simp only at hz hdf hoff
            subst hdf
            have htm := tmps_fold [32, 33, 34, 35, 36, 37, 38, 39, 40, 41, 42] tm _ hz hoff
            simp only [List.foldl, List.setIfInBounds_toArray, List.set_cons_zero, List.set_cons_succ] at htm
            clear hz hoff
            generalize tm.getD 32 undef = sl0, tm.getD 33 undef = sl1, tm.getD 34 undef = sl2, tm.getD 35 undef = sl3, tm.getD 36 undef = sl4, tm.getD 37 undef = sl5, tm.getD 38 undef = sl6, tm.getD 39 undef = sl7, tm.getD 40 undef = sl8, tm.getD 41 undef = sl9, tm.getD 42 undef = sl10 at htm
            subst htm
            have HF : Hid (RingP (tuN c p) (fmP c p) w (.returned (.agg #[.slice go c c'])) Wz) := by
              rw [HN.out]
              exact ⟨_, rfl, (SpOwn.of F1).mono (by omega), HT.trans (hBz.mono (by omega))⟩
            have r0 := F0.c 0 rfl; have rf := F0.f 0 rfl
            clear F0 F1 hBz HT S2 HBA HBR
            go_wp2
            refine bodyPost_ret (v := .agg #[.slice go c c']) (by simp [results, Try.results11, go_sem, r0]) rfl ?_
            exact HF.out
  · rw [decide_eq_false h]
    have HN : Hid (tuN n p = 0) := by show _ = _; unfold tuN; rw [if_neg h]
    have r0 := BR.c 0 rfl; have rf := BR.f 0 rfl
    clear h R BA BR
    go_wp2
    refine bodyPost_ret (v := .agg #[.slice none 0 0]) (by simp [results, Try.results11, go_sem, r0]) rfl ?_
    rw [HN.out]
    exact ⟨_, rfl, .inl ⟨rfl, rfl⟩, HB0.setCell (by simp) _⟩
end Go.Proofs.Ytmjlgmoohpnhfaa

/- A drawn region that appends one element to a row of the call's own: what every operation keeps. -/
namespace Go.Proofs.Ytmjlgmoohpnhfaa
open Go.RowKit
theorem getD_tf {l : Array Bool} {i : Nat} (h : l.getD i true = false) : l.getD i false = false := by
  rw [Array.getD_eq_getD_getElem?] at *
  cases hh : l[i]? with
  | none => rw [hh] at h; cases h
  | some b => rw [hh] at h; exact h
theorem getD_set_neq {l : Array Bool} {i j : Nat} (h : i ≠ j) : (l.setIfInBounds i true).getD j false = l.getD j false := by
  simp [Array.getD_eq_getD_getElem?, Array.getElem?_setIfInBounds_ne h]
theorem getD_set_eq {l : Array Bool} {i : Nat} (h : l.getD i true = false) : (l.setIfInBounds i true).getD i false = true := by
  rw [Array.getD_eq_getD_getElem?] at *
  cases hh : l[i]? with
  | none => rw [hh] at h; cases h
  | some b => simp [(Array.getElem?_eq_some_iff.1 hh).1]
theorem ownA_step {w w' : World} {base n : Nat} {e : TypeId} {size : Nat} {v : Value} {xs : List Value} (h : w.ownsRow base e size v n xs) (hB : Below w.heap.size w w') : w'.ownsRow base e size v n xs := by
  rcases h with ⟨h0, h1 | ⟨g, cap, cur, h1, h2, h3, h4⟩⟩
  · exact ⟨h0, .inl h1⟩
  · refine ⟨h0, .inr ⟨g, cap, cur, h1, h2, ?_, h4⟩⟩
    rw [hB.block g (Array.getElem?_eq_some_iff.1 h3).1]
    exact h3
/-- ib builds the element (slot de), ia appends it (slot da), iz assigns the row (slot dr), all others being ahead of that. -/
def AppI (n ib ia iz dr de da base : Nat) (T : TypeId) (size : Nat) (o : Value) (c : Nat) (Lz news : List Value) (lz : Array Bool) (az : Act) (W : World) : Prop :=
  (lz.getD iz false = true → ∀ j, j < n → lz.getD j false = true) ∧ (lz.getD iz false = false → az.tmps.getD dr undef = o) ∧
  (lz.getD ia false = false → W.ownsRow base T size o c Lz ∧ (lz.getD ib false = true → ∃ g cp, az.tmps.getD de undef = .slice (some ⟨g, 0, none⟩) 1 cp ∧ Blk W g news)) ∧
  (lz.getD ia false = true → W.ownsRow base T size (az.tmps.getD da undef) (c + 1) (Lz ++ news)) ∧ (lz.getD iz false = true → az.tmps.getD dr undef = az.tmps.getD da undef)
theorem replD (n j : Nat) : (Array.replicate n false).getD j false = false := by
  rw [Array.getD_eq_getD_getElem?, Array.getElem?_replicate]
  split <;> rfl
theorem AppI.start {n m ib ia iz dr de da base : Nat} {T : TypeId} {size : Nat} {o : Value} {c : Nat} {Lz news : List Value} {az : Act} {W : World} (h1 : az.tmps.getD dr undef = o) (h2 : W.ownsRow base T size o c Lz) : AppI n ib ia iz dr de da base T size o c Lz news (Array.replicate m false) az W :=
  ⟨(fun h => by rw [replD] at h; cases h), fun _ => h1, fun _ => ⟨h2, (fun h => by rw [replD] at h; cases h)⟩, (fun h => by rw [replD] at h; cases h), (fun h => by rw [replD] at h; cases h)⟩
theorem AppI.off {n ib ia iz dr de da base : Nat} {T : TypeId} {size : Nat} {o : Value} {c : Nat} {Lz news : List Value} {lz : Array Bool} {az : Act} {W : World} (h : AppI n ib ia iz dr de da base T size o c Lz news lz az W) {i : Nat} (hi : i < n) (hl : lz.getD i true = false) : lz.getD iz false = false := by
  cases hh : lz.getD iz false with
  | false => rfl
  | true => have := h.1 hh i hi; rw [getD_tf hl] at this; cases this
theorem AppI.quiet {n ib ia iz dr de da base : Nat} {T : TypeId} {size : Nat} {o : Value} {c : Nat} {Lz news : List Value} {lz : Array Bool} {az : Act} {W W2 : World} (h : AppI n ib ia iz dr de da base T size o c Lz news lz az W) (i d : Nat) (v : Value) (hi : i < n) (hl : lz.getD i true = false) (h1 : i ≠ ib) (h2 : i ≠ ia) (h3 : i ≠ iz) (e1 : d ≠ dr) (e2 : d ≠ de) (e3 : d ≠ da) (hB : Below W.heap.size W W2) :
    AppI n ib ia iz dr de da base T size o c Lz news (lz.setIfInBounds i true) (az.put (some d) v) W2 := by
  have hz := h.off hi hl
  obtain ⟨a1, a2, a3, a4, a5⟩ := h
  unfold AppI
  rw [getD_set_neq h3, getD_set_neq h2, getD_set_neq h1, put_getD_ne e1, put_getD_ne e2, put_getD_ne e3]
  refine ⟨(fun h => by rw [hz] at h; cases h), a2, fun h => ⟨ownA_step (a3 h).1 hB, fun hb => ?_⟩, fun h => ownA_step (a4 h) hB, (fun h => by rw [hz] at h; cases h)⟩
  obtain ⟨g, cp, e, X⟩ := (a3 h).2 hb
  exact ⟨g, cp, e, X.step hB⟩
theorem AppI.built {n ib ia iz dr de da base : Nat} {T : TypeId} {size : Nat} {o : Value} {c : Nat} {Lz news : List Value} {lz : Array Bool} {az : Act} {W W2 : World} (h : AppI n ib ia iz dr de da base T size o c Lz news lz az W) (hi : ib < n) (hl : lz.getD ib true = false) (h2 : ib ≠ ia) (h3 : ib ≠ iz) (e1 : de ≠ dr) (e3 : de ≠ da) (hd : de < az.tmps.size) {g cp : Nat} (hB : Below W.heap.size W W2) (hX : Blk W2 g news) :
    AppI n ib ia iz dr de da base T size o c Lz news (lz.setIfInBounds ib true) (az.put (some de) (.slice (some ⟨g, 0, none⟩) 1 cp)) W2 := by
  have hz := h.off hi hl
  obtain ⟨a1, a2, a3, a4, a5⟩ := h
  unfold AppI
  rw [getD_set_neq h3, getD_set_neq h2, put_getD_ne e1, put_getD_ne e3, put_getD_same hd]
  exact ⟨(fun h => by rw [hz] at h; cases h), a2, fun h => ⟨ownA_step (a3 h).1 hB, fun _ => ⟨g, cp, rfl, hX⟩⟩, fun h => ownA_step (a4 h) hB, (fun h => by rw [hz] at h; cases h)⟩
theorem AppI.appended {n ib ia iz dr de da base : Nat} {T : TypeId} {size : Nat} {o : Value} {c : Nat} {Lz news : List Value} {lz : Array Bool} {az : Act} {W W2 : World} (h : AppI n ib ia iz dr de da base T size o c Lz news lz az W) (hi : ia < n) (hl : lz.getD ia true = false) (h3 : ia ≠ iz) (e1 : da ≠ dr) (hd : da < az.tmps.size) (v : Value) (hv : W2.ownsRow base T size v (c + 1) (Lz ++ news)) :
    AppI n ib ia iz dr de da base T size o c Lz news (lz.setIfInBounds ia true) (az.put (some da) v) W2 := by
  have hz := h.off hi hl
  obtain ⟨a1, a2, a3, a4, a5⟩ := h
  unfold AppI
  rw [getD_set_neq h3, getD_set_eq hl, put_getD_ne e1, put_getD_same hd]
  exact ⟨(fun h => by rw [hz] at h; cases h), a2, (fun h => by cases h), fun _ => hv, (fun h => by rw [hz] at h; cases h)⟩
theorem AppI.assigned {n ib ia iz dr de da base : Nat} {T : TypeId} {size : Nat} {o : Value} {c : Nat} {Lz news : List Value} {lz : Array Bool} {az : Act} {W : World} (h : AppI n ib ia iz dr de da base T size o c Lz news lz az W) (hl : lz.getD iz true = false) (hall : ∀ j, j < n → j ≠ iz → lz.getD j false = true) (hia : ia < n) (h3 : iz ≠ ia) (e1 : dr ≠ da) (hd : dr < az.tmps.size) (v : Value) (hv : az.tmps.getD da undef = v) :
    AppI n ib ia iz dr de da base T size o c Lz news (lz.setIfInBounds iz true) (az.put (some dr) v) W := by
  obtain ⟨a1, a2, a3, a4, a5⟩ := h
  have ha := hall ia hia (Ne.symm h3)
  unfold AppI
  rw [getD_set_neq h3, getD_set_eq hl, put_getD_ne e1, put_getD_same hd, ha]
  refine ⟨fun _ j hj => ?_, (fun h => by cases h), (fun h => by cases h), fun _ => a4 ha, fun _ => hv.symm⟩
  by_cases hji : j = iz
  · subst hji; exact getD_set_eq hl
  · rw [getD_set_neq (Ne.symm hji)]; exact hall j hj hji
theorem AppI.done {n ib ia iz dr de da base : Nat} {T : TypeId} {size : Nat} {o : Value} {c : Nat} {Lz news : List Value} {lz : Array Bool} {az : Act} {W : World} (h : AppI n ib ia iz dr de da base T size o c Lz news lz az W) (hia : ia < n) (hl : lz.getD iz false = true) : W.ownsRow base T size (az.tmps.getD dr undef) (c + 1) (Lz ++ news) := by
  rw [h.2.2.2.2 hl]
  exact h.2.2.2.1 (h.1 hl ia hia)
theorem blk_news {W : World} {g : Nat} {vs : List Value} (h : Blk W g vs) : ∀ j u, vs[j]? = some u → W.cell? ((⟨g, 0, none⟩ : Addr).add j) = some u := fun j u hj => by
  have := h.c j hj
  unfold Addr.add
  by_cases hz : j = 0
  · subst hz; simpa using this
  · simpa [hz] using this
end Go.Proofs.Ytmjlgmoohpnhfaa

/- A ring's form: the drawn region of the document that puts the next spot behind the others. -/
namespace Go.Proofs.Ytmjlgmoohpnhfaa
open Go.RowKit
def VfmN (A1 g n cap lf kf m r : Nat) (x y : Int) (o : Value) (_c _base : Nat) (_Lz : List Value) (_B : Nat) : Nat → Value → World → Prop
  | 0, v, _ => v = o
  | 1, v, _ => v = .pointer (some ⟨A1, 0, none⟩)
  | 2, v, _ => v = .slice (some ⟨g, 0, none⟩) n cap
  | 3, v, _ => v = .int .i64 (lf : Nat)
  | 4, v, _ => v = .int .i64 (kf : Nat)
  | 5, v, _ => v = .int .i64 (m : Nat)
  | 6, v, _ => v = .pointer (some ⟨A1, 0, none⟩)
  | 7, v, _ => v = .slice (some ⟨g, 0, none⟩) n cap
  | 8, v, _ => v = .int .i64 (n : Nat)
  | 9, v, _ => v = .int .i64 (r : Nat)
  | 10, v, _ => v = .pointer (some ⟨g, r * 2, none⟩)
  | 11, v, _ => v = .agg #[.int .i64 x, .int .i64 y]
  | _, _, _ => True
theorem VfmN.mono {A1 g n cap lf kf m r : Nat} {x y : Int} {o : Value} {c base : Nat} {Lz : List Value} {B j : Nat} {v : Value} {W W2 : World} (_hB : Below W.heap.size W W2) (h : VfmN A1 g n cap lf kf m r x y o c base Lz B j v W) : VfmN A1 g n cap lf kf m r x y o c base Lz B j v W2 := by
  unfold VfmN at *
  split <;> simp only at h <;> first | exact h | trivial
theorem VfmN.same {A1 g n cap lf kf m r : Nat} {x y : Int} {o : Value} {c base : Nat} {Lz : List Value} {B j : Nat} {v : Value} {W W2 : World} (h : VfmN A1 g n cap lf kf m r x y o c base Lz B j v W) : VfmN A1 g n cap lf kf m r x y o c base Lz B j v W2 := by
  unfold VfmN at *
  split <;> simp only at h <;> first | exact h | trivial
def SfmN (_A1 _g _n _cap _lf _kf _m _r : Nat) (x y : Int) (o : Value) (c base : Nat) (Lz : List Value) (lz : Array Bool) (az : Act) (W : World) : Prop := AppI 15 12 13 14 5 55 56 base 55 2 o c Lz [.int .i64 x, .int .i64 y] lz az W

def JfmN (A1 g n cap lf kf m r : Nat) (x y : Int) (o : Value) (c base : Nat) (Lz : List Value) (w0 : World) (a0 : Act) (lz : Array Bool) (az : Act) (W : World) : Prop := InvQ (base) [some 43, some 44, some 45, some 46, some 47, some 48, some 49, some 50, some 51, some 52, some 53, some 54, some 55, some 56, some 5] (VfmN A1 g n cap lf kf m r x y o c base Lz (base)) w0 a0 lz az W ∧ SfmN A1 g n cap lf kf m r x y o c base Lz lz az W
set_option maxRecDepth 100000 in
set_option maxHeartbeats 4000000 in
theorem fmN {Q : Exit → Act → World → Prop} {A1 g n cap lf kf m r : Nat} {x y : Int} {o : Value} {c base : Nat} {Lz : List Value}  {w0 : World} {a0 : Act} {idq : Nat} {t0 t1 t2 t3 t4 t5 t6 t7 t8 t9 t10 t11 t12 t13 t14 : TypeId} {q0 q1 q2 q3 q4 q5 q6 q7 q8 q9 q10 q11 q12 q13 q14 : String}
    (wM : IntKind.i64.wrap ((lf : Int) + (kf : Int)) = (m : Int)) (wR : ((m : Int)).tmod (n : Int) = (r : Int)) (n1 : ¬ (n = 0)) (rN : (r : Int) < (n : Int)) (hr : a0.tmps.getD 5 undef = o) (ho : w0.ownsRow base 55 2 o c Lz) (nB : base ≤ w0.heap.size) (cB : c ≤ 1048576) (h1 : a0.tmps[1]? = some (.pointer (some ⟨A1, 0, none⟩))) (h3 : a0.tmps[3]? = some (.int .i64 (lf : Nat))) (h6 : a0.tmps[6]? = some (.int .i64 (kf : Nat))) (k0 : w0.cell? ⟨A1, 0, none⟩ = some (.slice (some ⟨g, 0, none⟩) n cap)) (l0 : (⟨A1, 0, none⟩ : Addr).block < base) (k1 : w0.cell? ⟨g, r * 2, none⟩ = some (.int .i64 x)) (l1 : (⟨g, r * 2, none⟩ : Addr).block < base) (k2 : w0.cell? ⟨g, r * 2 + 1, none⟩ = some (.int .i64 y)) (l2 : (⟨g, r * 2 + 1, none⟩ : Addr).block < base) (hz : a0.tmps.size = 59)
    (hQ : ∀ aq W, aq.tmps.size = a0.tmps.size → aq.defers = a0.defers → (∀ e, e ∉ ([43, 44, 45, 46, 47, 48, 49, 50, 51, 52, 53, 54, 55, 56, 5] : List Nat) → aq.tmps[e]? = a0.tmps[e]?) → VfmN A1 g n cap lf kf m r x y o c base Lz (base) 14 (aq.tmps.getD 5 undef) W → Below (base) w0 W → (W.ownsRow base 55 2 (aq.tmps.getD 5 undef) (c + 1) (Lz ++ [.int .i64 x, .int .i64 y])) → Q .normal aq W) :
    (Code.region idq #[{ dst := some 43, op := Op.move (Operand.tmp 5), type := t0, pos := q0, after := #[], guard := none },
    { dst := some 44, op := Op.fieldAddr 28 (Operand.tmp 1) 0, type := t1, pos := q1, after := #[], guard := none },
    { dst := some 45, op := Op.load 26 (Operand.tmp 44), type := t2, pos := q2, after := #[{ on := 1, ground := Ground.data }], guard := none },
    { dst := some 46, op := Op.move (Operand.tmp 3), type := t3, pos := q3, after := #[], guard := none },
    { dst := some 47, op := Op.move (Operand.tmp 6), type := t4, pos := q4, after := #[], guard := none },
    { dst := some 48, op := Op.binOp BinOp.add 3 (Operand.tmp 46) (Operand.tmp 47) 3, type := t5, pos := q5, after := #[{ on := 3, ground := Ground.data }, { on := 4, ground := Ground.data }], guard := none },
    { dst := some 49, op := Op.fieldAddr 28 (Operand.tmp 1) 0, type := t6, pos := q6, after := #[], guard := none },
    { dst := some 50, op := Op.load 26 (Operand.tmp 49), type := t7, pos := q7, after := #[{ on := 6, ground := Ground.data }], guard := none },
    { dst := some 51, op := Op.call { callee := Callee.builtin Builtin.len, args := #[Operand.tmp 50], argTypes := #[26] }, type := t8, pos := q8, after := #[{ on := 7, ground := Ground.data }], guard := none },
    { dst := some 52, op := Op.binOp BinOp.rem 3 (Operand.tmp 48) (Operand.tmp 51) 3, type := t9, pos := q9, after := #[{ on := 5, ground := Ground.data }, { on := 8, ground := Ground.data }], guard := none },
    { dst := some 53, op := Op.indexAddr 26 (Operand.tmp 45) (Operand.tmp 52), type := t10, pos := q10, after := #[{ on := 2, ground := Ground.data }, { on := 9, ground := Ground.data }], guard := none },
    { dst := some 54, op := Op.load 55 (Operand.tmp 53), type := t11, pos := q11, after := #[{ on := 10, ground := Ground.data }], guard := none },
    { dst := some 55, op := Op.buildSlice 26 1 #[(0, Operand.tmp 54)], type := t12, pos := q12, after := #[{ on := 11, ground := Ground.data }], guard := none },
    { dst := some 56, op := Op.call { callee := Callee.builtin Builtin.append, args := #[Operand.tmp 43, Operand.tmp 55], argTypes := #[26, 26] }, type := t13, pos := q13, after := #[{ on := 0, ground := Ground.data }, { on := 12, ground := Ground.data }], guard := none },
    { dst := some 5, op := Op.assign (Operand.tmp 56), type := t14, pos := q14, after := #[{ on := 13, ground := Ground.data }, { on := 13, ground := Ground.chain }, { on := 0, ground := Ground.phase }, { on := 1, ground := Ground.phase }, { on := 2, ground := Ground.phase }, { on := 3, ground := Ground.phase }, { on := 4, ground := Ground.phase }, { on := 5, ground := Ground.phase }, { on := 6, ground := Ground.phase }, { on := 7, ground := Ground.phase }, { on := 8, ground := Ground.phase }, { on := 9, ground := Ground.phase }, { on := 10, ground := Ground.phase }, { on := 11, ground := Ground.phase }, { on := 12, ground := Ground.phase }, { on := 13, ground := Ground.phase }], guard := none }] true).wp Try.prog Q a0 w0 := by
  have hS : distS [some 43, some 44, some 45, some 46, some 47, some 48, some 49, some 50, some 51, some 52, some 53, some 54, some 55, some 56, some 5] = true := rfl
  refine wp_region_inv (by kernel_rfl) (JfmN A1 g n cap lf kf m r x y o c base Lz w0 a0) ⟨⟨rfl, rfl, rfl, fun _ _ => rfl, (Below.refl _ w0).drew, fun j d hj => ?_, fun j hj => ?_⟩, AppI.start hr (ownA_step ho (Below.refl _ _).drew)⟩ ?_ ?_
  · exfalso
    rw [Array.getD_eq_getD_getElem?, Array.getElem?_replicate] at hj
    split at hj <;> simp at hj
  · exfalso
    rw [Array.getD_eq_getD_getElem?, Array.getElem?_replicate] at hj
    split at hj <;> simp at hj
  · intro lq aq W iq oq ⟨hJ, hs⟩ hl ho hall
    have hJ2 := hJ
    obtain ⟨z1, z2, z3, z4, z5, z6, z7⟩ := hJ
    have g1 : aq.tmps.getD 1 undef = .pointer (some ⟨A1, 0, none⟩) := by rw [Array.getD_eq_getD_getElem?, z4 1 (by decide), h1]; rfl
    have g3 : aq.tmps.getD 3 undef = .int .i64 (lf : Nat) := by rw [Array.getD_eq_getD_getElem?, z4 3 (by decide), h3]; rfl
    have g6 : aq.tmps.getD 6 undef = .int .i64 (kf : Nat) := by rw [Array.getD_eq_getD_getElem?, z4 6 (by decide), h6]; rfl
    have c0 : W.cell? ⟨A1, 0, none⟩ = some (.slice (some ⟨g, 0, none⟩) n cap) := (z5.cell l0).trans k0
    have c1 : W.cell? ⟨g, r * 2, none⟩ = some (.int .i64 x) := (z5.cell l1).trans k1
    have c2 : W.cell? ⟨g, r * 2 + 1, none⟩ = some (.int .i64 y) := (z5.cell l2).trans k2
    match iq, ho with
    | 0, ho =>
      cases ho
      refine wpOp_of rfl rfl ?_
      have hq := fun (v : Value) (W2 : World) => hs.quiet (W2 := W2) 0 43 v (by decide) hl (by decide) (by decide) (by decide) (by decide) (by decide) (by decide)
      have g5 : aq.tmps.getD 5 undef = o := hs.2.1 (hs.off (i := 0) (by decide) hl)
      have hK := fun (v : Value) (W2 : World) hW hT hv (hs : SfmN A1 g n cap lf kf m r x y o c base Lz (lq.setIfInBounds 0 true) (aq.put (some 43) v) W2) => show (JfmN A1 g n cap lf kf m r x y o c base Lz w0 a0) (lq.setIfInBounds 0 true) (aq.put (some 43) v) W2 from ⟨hJ2.put hS 0 43 rfl (by omega) (W' := W2) hW hT v hv, hs⟩
      clear ho hall hl hQ
      generalize (JfmN A1 g n cap lf kf m r x y o c base Lz w0 a0) (lq.setIfInBounds 0 true) = K at hK ⊢
      clear hJ2 hS z1 z2 z3 z4 z6 z7
      go_simp
      exact hK _ _ z5 (fun _ _ h => h) rfl (hq _ _ (Below.refl _ _))
    | 1, ho =>
      cases ho
      refine wpOp_of rfl rfl ?_
      have hq := fun (v : Value) (W2 : World) => hs.quiet (W2 := W2) 1 44 v (by decide) hl (by decide) (by decide) (by decide) (by decide) (by decide) (by decide)
      have hK := fun (v : Value) (W2 : World) hW hT hv (hs : SfmN A1 g n cap lf kf m r x y o c base Lz (lq.setIfInBounds 1 true) (aq.put (some 44) v) W2) => show (JfmN A1 g n cap lf kf m r x y o c base Lz w0 a0) (lq.setIfInBounds 1 true) (aq.put (some 44) v) W2 from ⟨hJ2.put hS 1 44 rfl (by omega) (W' := W2) hW hT v hv, hs⟩
      clear ho hall hl hQ
      generalize (JfmN A1 g n cap lf kf m r x y o c base Lz w0 a0) (lq.setIfInBounds 1 true) = K at hK ⊢
      clear hJ2 hS z1 z2 z3 z4 z6 z7
      go_simp
      exact hK _ _ z5 (fun _ _ h => h) rfl (hq _ _ (Below.refl _ _))
    | 2, ho =>
      cases ho
      refine wpOp_of rfl rfl ?_
      have f1 : (aq.tmps.getD 44 undef) = .pointer (some ⟨A1, 0, none⟩) := z6 1 44 (hall { on := 1, ground := Ground.data } (by simp) rfl) rfl
      have hq := fun (v : Value) (W2 : World) => hs.quiet (W2 := W2) 2 45 v (by decide) hl (by decide) (by decide) (by decide) (by decide) (by decide) (by decide)
      have hK := fun (v : Value) (W2 : World) hW hT hv (hs : SfmN A1 g n cap lf kf m r x y o c base Lz (lq.setIfInBounds 2 true) (aq.put (some 45) v) W2) => show (JfmN A1 g n cap lf kf m r x y o c base Lz w0 a0) (lq.setIfInBounds 2 true) (aq.put (some 45) v) W2 from ⟨hJ2.put hS 2 45 rfl (by omega) (W' := W2) hW hT v hv, hs⟩
      clear ho hall hl hQ
      generalize (JfmN A1 g n cap lf kf m r x y o c base Lz w0 a0) (lq.setIfInBounds 2 true) = K at hK ⊢
      clear hJ2 hS z1 z2 z3 z4 z6 z7
      go_simp
      exact hK _ _ z5 (fun _ _ h => h) rfl (hq _ _ (Below.refl _ _))
    | 3, ho =>
      cases ho
      refine wpOp_of rfl rfl ?_
      have hq := fun (v : Value) (W2 : World) => hs.quiet (W2 := W2) 3 46 v (by decide) hl (by decide) (by decide) (by decide) (by decide) (by decide) (by decide)
      have hK := fun (v : Value) (W2 : World) hW hT hv (hs : SfmN A1 g n cap lf kf m r x y o c base Lz (lq.setIfInBounds 3 true) (aq.put (some 46) v) W2) => show (JfmN A1 g n cap lf kf m r x y o c base Lz w0 a0) (lq.setIfInBounds 3 true) (aq.put (some 46) v) W2 from ⟨hJ2.put hS 3 46 rfl (by omega) (W' := W2) hW hT v hv, hs⟩
      clear ho hall hl hQ
      generalize (JfmN A1 g n cap lf kf m r x y o c base Lz w0 a0) (lq.setIfInBounds 3 true) = K at hK ⊢
      clear hJ2 hS z1 z2 z3 z4 z6 z7
      go_simp
      exact hK _ _ z5 (fun _ _ h => h) rfl (hq _ _ (Below.refl _ _))
    | 4, ho =>
      cases ho
      refine wpOp_of rfl rfl ?_
      have hq := fun (v : Value) (W2 : World) => hs.quiet (W2 := W2) 4 47 v (by decide) hl (by decide) (by decide) (by decide) (by decide) (by decide) (by decide)
      have hK := fun (v : Value) (W2 : World) hW hT hv (hs : SfmN A1 g n cap lf kf m r x y o c base Lz (lq.setIfInBounds 4 true) (aq.put (some 47) v) W2) => show (JfmN A1 g n cap lf kf m r x y o c base Lz w0 a0) (lq.setIfInBounds 4 true) (aq.put (some 47) v) W2 from ⟨hJ2.put hS 4 47 rfl (by omega) (W' := W2) hW hT v hv, hs⟩
      clear ho hall hl hQ
      generalize (JfmN A1 g n cap lf kf m r x y o c base Lz w0 a0) (lq.setIfInBounds 4 true) = K at hK ⊢
      clear hJ2 hS z1 z2 z3 z4 z6 z7
      go_simp
      exact hK _ _ z5 (fun _ _ h => h) rfl (hq _ _ (Below.refl _ _))
    | 5, ho =>
      cases ho
      refine wpOp_of rfl rfl ?_
      have f3 : (aq.tmps.getD 46 undef) = .int .i64 (lf : Nat) := z6 3 46 (hall { on := 3, ground := Ground.data } (by simp) rfl) rfl
      have f4 : (aq.tmps.getD 47 undef) = .int .i64 (kf : Nat) := z6 4 47 (hall { on := 4, ground := Ground.data } (by simp) rfl) rfl
      have hq := fun (v : Value) (W2 : World) => hs.quiet (W2 := W2) 5 48 v (by decide) hl (by decide) (by decide) (by decide) (by decide) (by decide) (by decide)
      have hK := fun (v : Value) (W2 : World) hW hT hv (hs : SfmN A1 g n cap lf kf m r x y o c base Lz (lq.setIfInBounds 5 true) (aq.put (some 48) v) W2) => show (JfmN A1 g n cap lf kf m r x y o c base Lz w0 a0) (lq.setIfInBounds 5 true) (aq.put (some 48) v) W2 from ⟨hJ2.put hS 5 48 rfl (by omega) (W' := W2) hW hT v hv, hs⟩
      clear ho hall hl hQ
      generalize (JfmN A1 g n cap lf kf m r x y o c base Lz w0 a0) (lq.setIfInBounds 5 true) = K at hK ⊢
      clear hJ2 hS z1 z2 z3 z4 z6 z7
      go_simp
      exact hK _ _ z5 (fun _ _ h => h) rfl (hq _ _ (Below.refl _ _))
    | 6, ho =>
      cases ho
      refine wpOp_of rfl rfl ?_
      have hq := fun (v : Value) (W2 : World) => hs.quiet (W2 := W2) 6 49 v (by decide) hl (by decide) (by decide) (by decide) (by decide) (by decide) (by decide)
      have hK := fun (v : Value) (W2 : World) hW hT hv (hs : SfmN A1 g n cap lf kf m r x y o c base Lz (lq.setIfInBounds 6 true) (aq.put (some 49) v) W2) => show (JfmN A1 g n cap lf kf m r x y o c base Lz w0 a0) (lq.setIfInBounds 6 true) (aq.put (some 49) v) W2 from ⟨hJ2.put hS 6 49 rfl (by omega) (W' := W2) hW hT v hv, hs⟩
      clear ho hall hl hQ
      generalize (JfmN A1 g n cap lf kf m r x y o c base Lz w0 a0) (lq.setIfInBounds 6 true) = K at hK ⊢
      clear hJ2 hS z1 z2 z3 z4 z6 z7
      go_simp
      exact hK _ _ z5 (fun _ _ h => h) rfl (hq _ _ (Below.refl _ _))
    | 7, ho =>
      cases ho
      refine wpOp_of rfl rfl ?_
      have f6 : (aq.tmps.getD 49 undef) = .pointer (some ⟨A1, 0, none⟩) := z6 6 49 (hall { on := 6, ground := Ground.data } (by simp) rfl) rfl
      have hq := fun (v : Value) (W2 : World) => hs.quiet (W2 := W2) 7 50 v (by decide) hl (by decide) (by decide) (by decide) (by decide) (by decide) (by decide)
      have hK := fun (v : Value) (W2 : World) hW hT hv (hs : SfmN A1 g n cap lf kf m r x y o c base Lz (lq.setIfInBounds 7 true) (aq.put (some 50) v) W2) => show (JfmN A1 g n cap lf kf m r x y o c base Lz w0 a0) (lq.setIfInBounds 7 true) (aq.put (some 50) v) W2 from ⟨hJ2.put hS 7 50 rfl (by omega) (W' := W2) hW hT v hv, hs⟩
      clear ho hall hl hQ
      generalize (JfmN A1 g n cap lf kf m r x y o c base Lz w0 a0) (lq.setIfInBounds 7 true) = K at hK ⊢
      clear hJ2 hS z1 z2 z3 z4 z6 z7
      go_simp
      exact hK _ _ z5 (fun _ _ h => h) rfl (hq _ _ (Below.refl _ _))
    | 8, ho =>
      cases ho
      refine wpOp_of rfl rfl ?_
      have f7 : (aq.tmps.getD 50 undef) = .slice (some ⟨g, 0, none⟩) n cap := z6 7 50 (hall { on := 7, ground := Ground.data } (by simp) rfl) rfl
      have hq := fun (v : Value) (W2 : World) => hs.quiet (W2 := W2) 8 51 v (by decide) hl (by decide) (by decide) (by decide) (by decide) (by decide) (by decide)
      have hK := fun (v : Value) (W2 : World) hW hT hv (hs : SfmN A1 g n cap lf kf m r x y o c base Lz (lq.setIfInBounds 8 true) (aq.put (some 51) v) W2) => show (JfmN A1 g n cap lf kf m r x y o c base Lz w0 a0) (lq.setIfInBounds 8 true) (aq.put (some 51) v) W2 from ⟨hJ2.put hS 8 51 rfl (by omega) (W' := W2) hW hT v hv, hs⟩
      clear ho hall hl hQ
      generalize (JfmN A1 g n cap lf kf m r x y o c base Lz w0 a0) (lq.setIfInBounds 8 true) = K at hK ⊢
      clear hJ2 hS z1 z2 z3 z4 z6 z7
      go_simp
      exact hK _ _ z5 (fun _ _ h => h) rfl (hq _ _ (Below.refl _ _))
    | 9, ho =>
      cases ho
      refine wpOp_of rfl rfl ?_
      have f5 : (aq.tmps.getD 48 undef) = .int .i64 (m : Nat) := z6 5 48 (hall { on := 5, ground := Ground.data } (by simp) rfl) rfl
      have f8 : (aq.tmps.getD 51 undef) = .int .i64 (n : Nat) := z6 8 51 (hall { on := 8, ground := Ground.data } (by simp) rfl) rfl
      have hq := fun (v : Value) (W2 : World) => hs.quiet (W2 := W2) 9 52 v (by decide) hl (by decide) (by decide) (by decide) (by decide) (by decide) (by decide)
      have hK := fun (v : Value) (W2 : World) hW hT hv (hs : SfmN A1 g n cap lf kf m r x y o c base Lz (lq.setIfInBounds 9 true) (aq.put (some 52) v) W2) => show (JfmN A1 g n cap lf kf m r x y o c base Lz w0 a0) (lq.setIfInBounds 9 true) (aq.put (some 52) v) W2 from ⟨hJ2.put hS 9 52 rfl (by omega) (W' := W2) hW hT v hv, hs⟩
      clear ho hall hl hQ
      generalize (JfmN A1 g n cap lf kf m r x y o c base Lz w0 a0) (lq.setIfInBounds 9 true) = K at hK ⊢
      clear hJ2 hS z1 z2 z3 z4 z6 z7
      go_simp
      exact hK _ _ z5 (fun _ _ h => h) rfl (hq _ _ (Below.refl _ _))
    | 10, ho =>
      cases ho
      refine wpOp_of rfl rfl ?_
      have f2 : (aq.tmps.getD 45 undef) = .slice (some ⟨g, 0, none⟩) n cap := z6 2 45 (hall { on := 2, ground := Ground.data } (by simp) rfl) rfl
      have f9 : (aq.tmps.getD 52 undef) = .int .i64 (r : Nat) := z6 9 52 (hall { on := 9, ground := Ground.data } (by simp) rfl) rfl
      have hq := fun (v : Value) (W2 : World) => hs.quiet (W2 := W2) 10 53 v (by decide) hl (by decide) (by decide) (by decide) (by decide) (by decide) (by decide)
      have hK := fun (v : Value) (W2 : World) hW hT hv (hs : SfmN A1 g n cap lf kf m r x y o c base Lz (lq.setIfInBounds 10 true) (aq.put (some 53) v) W2) => show (JfmN A1 g n cap lf kf m r x y o c base Lz w0 a0) (lq.setIfInBounds 10 true) (aq.put (some 53) v) W2 from ⟨hJ2.put hS 10 53 rfl (by omega) (W' := W2) hW hT v hv, hs⟩
      clear ho hall hl hQ
      generalize (JfmN A1 g n cap lf kf m r x y o c base Lz w0 a0) (lq.setIfInBounds 10 true) = K at hK ⊢
      clear hJ2 hS z1 z2 z3 z4 z6 z7
      go_simp
      exact hK _ _ z5 (fun _ _ h => h) rfl (hq _ _ (Below.refl _ _))
    | 11, ho =>
      cases ho
      refine wpOp_of rfl rfl ?_
      have f10 : (aq.tmps.getD 53 undef) = .pointer (some ⟨g, r * 2, none⟩) := z6 10 53 (hall { on := 10, ground := Ground.data } (by simp) rfl) rfl
      have hq := fun (v : Value) (W2 : World) => hs.quiet (W2 := W2) 11 54 v (by decide) hl (by decide) (by decide) (by decide) (by decide) (by decide) (by decide)
      have hK := fun (v : Value) (W2 : World) hW hT hv (hs : SfmN A1 g n cap lf kf m r x y o c base Lz (lq.setIfInBounds 11 true) (aq.put (some 54) v) W2) => show (JfmN A1 g n cap lf kf m r x y o c base Lz w0 a0) (lq.setIfInBounds 11 true) (aq.put (some 54) v) W2 from ⟨hJ2.put hS 11 54 rfl (by omega) (W' := W2) hW hT v hv, hs⟩
      clear ho hall hl hQ
      generalize (JfmN A1 g n cap lf kf m r x y o c base Lz w0 a0) (lq.setIfInBounds 11 true) = K at hK ⊢
      clear hJ2 hS z1 z2 z3 z4 z6 z7
      go_simp
      exact hK _ _ z5 (fun _ _ h => h) rfl (hq _ _ (Below.refl _ _))
    | 12, ho =>
      cases ho
      refine wpOp_of rfl rfl ?_
      have f11 : (aq.tmps.getD 54 undef) = .agg #[.int .i64 x, .int .i64 y] := z6 11 54 (hall { on := 11, ground := Ground.data } (by simp) rfl) rfl
      have hq := fun (g cp : Nat) (W2 : World) => hs.built (W2 := W2) (g := g) (cp := cp) (by decide) hl (by decide) (by decide) (by decide) (by decide) (by rw [z2, hz]; decide)
      rw [Array.getD_eq_getD_getElem?] at f11
      have hK := fun (v : Value) (W2 : World) hW hT hv (hs : SfmN A1 g n cap lf kf m r x y o c base Lz (lq.setIfInBounds 12 true) (aq.put (some 55) v) W2) => show (JfmN A1 g n cap lf kf m r x y o c base Lz w0 a0) (lq.setIfInBounds 12 true) (aq.put (some 55) v) W2 from ⟨hJ2.put hS 12 55 rfl (by omega) (W' := W2) hW hT v hv, hs⟩
      clear ho hall hl hQ
      generalize (JfmN A1 g n cap lf kf m r x y o c base Lz w0 a0) (lq.setIfInBounds 12 true) = K at hK ⊢
      clear hJ2 hS z1 z2 z3 z4 z6 z7
      have zs := z5.size
      go_simp
      exact hK _ _ (z5.alloc (by omega) _) (fun _ _ h => h.mono ((Below.refl _ _).alloc (Nat.le_refl _) _)) trivial (hq _ _ _ ((Below.refl _ _).alloc (Nat.le_refl _) _) (Blk.new W [.int .i64 x, .int .i64 y] _ rfl))
    | 13, ho =>
      cases ho
      refine wpOp_of rfl rfl ?_
      have f0 : (aq.tmps.getD 43 undef) = o := z6 0 43 (hall { on := 0, ground := Ground.data } (by simp) rfl) rfl
      have f12 : True := z6 12 55 (hall { on := 12, ground := Ground.data } (by simp) rfl) rfl
      have hq := fun (v : Value) (W2 : World) => hs.appended (W2 := W2) (by decide) hl (by decide) (by decide) (by rw [z2, hz]; decide) v
      obtain ⟨ow, hb⟩ := hs.2.2.1 (getD_tf hl)
      obtain ⟨ge, ce, ee, X⟩ := hb (hall { on := 12, ground := Ground.data } (by simp) rfl)
      obtain ⟨i0, hi, hz0, hz1, hz2⟩ := info_parts Try.infoSpot
      have hK := fun (v : Value) (W2 : World) hW hT hv (hs : SfmN A1 g n cap lf kf m r x y o c base Lz (lq.setIfInBounds 13 true) (aq.put (some 56) v) W2) => show (JfmN A1 g n cap lf kf m r x y o c base Lz w0 a0) (lq.setIfInBounds 13 true) (aq.put (some 56) v) W2 from ⟨hJ2.put hS 13 56 rfl (by omega) (W' := W2) hW hT v hv, hs⟩
      clear ho hall hl hQ
      generalize (JfmN A1 g n cap lf kf m r x y o c base Lz w0 a0) (lq.setIfInBounds 13 true) = K at hK ⊢
      clear hJ2 hS z1 z2 z3 z4 z6 z7
      have zs := z5.size
      refine wp_append_own (P := Try.prog) W (Operand.tmp 43) (Operand.tmp 55) 26 rfl base 55 i0 (.agg #[.int .i64 0, .int .i64 0]) 2 16 Try.underlying26 hi hz0 hz1 hz2 rfl (by decide) o c Lz (by assumption) ow ⟨ge, 0, none⟩ 1 ce [.int .i64 x, .int .i64 y] ee rfl (blk_news X) (one_cell2 _ _) (by unfold maxLen; omega) (by omega) (by omega) ?_
      intro v' w' ho2 hgr _
      exact hK v' w' (z5.grown hgr (by omega) (fun k hk => (ow.lt k hk).1)) (fun _ _ h => VfmN.same h) trivial (hq v' w' ho2)
    | 14, ho =>
      cases ho
      refine wpOp_of rfl rfl ?_
      have f13 : True := z6 13 56 (hall { on := 13, ground := Ground.data } (by simp) rfl) rfl
      have hq := fun (v : Value) hv => hs.assigned hl (fun j hj hn => match j, hj, hn with | 0, _, _ => hall { on := 0, ground := Ground.phase } (by simp) rfl | 1, _, _ => hall { on := 1, ground := Ground.phase } (by simp) rfl | 2, _, _ => hall { on := 2, ground := Ground.phase } (by simp) rfl | 3, _, _ => hall { on := 3, ground := Ground.phase } (by simp) rfl | 4, _, _ => hall { on := 4, ground := Ground.phase } (by simp) rfl | 5, _, _ => hall { on := 5, ground := Ground.phase } (by simp) rfl | 6, _, _ => hall { on := 6, ground := Ground.phase } (by simp) rfl | 7, _, _ => hall { on := 7, ground := Ground.phase } (by simp) rfl | 8, _, _ => hall { on := 8, ground := Ground.phase } (by simp) rfl | 9, _, _ => hall { on := 9, ground := Ground.phase } (by simp) rfl | 10, _, _ => hall { on := 10, ground := Ground.phase } (by simp) rfl | 11, _, _ => hall { on := 11, ground := Ground.phase } (by simp) rfl | 12, _, _ => hall { on := 12, ground := Ground.phase } (by simp) rfl | 13, _, _ => hall { on := 13, ground := Ground.data } (by simp) rfl | 14, _, hn => absurd rfl hn | j + 15, hj, _ => absurd hj (by omega)) (by decide) (by decide) (by decide) (by rw [z2, hz]; decide) v hv
      have hK := fun (v : Value) (W2 : World) hW hT hv (hs : SfmN A1 g n cap lf kf m r x y o c base Lz (lq.setIfInBounds 14 true) (aq.put (some 5) v) W2) => show (JfmN A1 g n cap lf kf m r x y o c base Lz w0 a0) (lq.setIfInBounds 14 true) (aq.put (some 5) v) W2 from ⟨hJ2.put hS 14 5 rfl (by omega) (W' := W2) hW hT v hv, hs⟩
      clear ho hall hl hQ
      generalize (JfmN A1 g n cap lf kf m r x y o c base Lz w0 a0) (lq.setIfInBounds 14 true) = K at hK ⊢
      clear hJ2 hS z1 z2 z3 z4 z6 z7
      go_simp
      exact hK _ _ z5 (fun _ _ h => h) trivial (hq _ (by rw [Array.getD_eq_getD_getElem?]))
    | iq + 15, ho => simp at ho
  · intro lq aq W ⟨hJ, hs⟩ hr
    obtain ⟨z1, z2, z3, z4, z5, z6, z7⟩ := hJ
    have hl := listed_of hr [0, 1, 2, 3, 4, 5, 6, 7, 8, 9, 10, 11, 12, 13, 14] [] (by simp) (by kernel_rfl) (by rw [z1]; decide)
    exact hQ aq W z2 z3 (fun e he => z4 e (by simpa using he)) (z6 14 5 (hl 14 (by simp)) rfl) z5 (hs.done (by decide) (hl 14 (by simp)))
end Go.Proofs.Ytmjlgmoohpnhfaa
