/- Part 15 of the walks that the proof leans on. -/
import Derived.Test.YtbhhegmlfclhbaaPart13
import Derived.Test.YtbhhegmlfclhbaaPart14
import Derived.Test.YtbhhegmlfclhbaaRows
import Derived.ProofKit
import Derived.Lib.SmallJoins
/- The region of the law in which both rings are asked. -/
namespace Go.Proofs.Ytbhhegmlfclhbaa
open Go.RowKit
theorem form_out {t : Nat} {q : Ps} {w w' : World} {e : Ending} (h : RingP t q w e w') : ∃ (go : Option Addr) (gc : Nat), e = .returned (.agg #[.slice go t gc]) ∧ SpIn w' go t q ∧ Below w.heap.size w w' := by
  obtain ⟨v, rfl, O, hB⟩ := h
  rcases O with ⟨rfl, rfl⟩ | ⟨g, cap, f, rfl, _, hc, _, R, hf⟩
  · exact ⟨none, 0, rfl, fun i hi => absurd hi (by omega), hB⟩
  · refine ⟨_, cap, rfl, fun i hi => ⟨g, 0, rfl, R.lt, ?_, ?_⟩, hB⟩
    · rw [Nat.zero_add, R.cell (by omega), hf _ (by omega), spW0]
    · rw [Nat.zero_add, R.cell (by omega), hf _ (by omega), spW1]
theorem row_in {w : World} {base m rcap : Nat} {ro : Option Addr} {Lq : List Int} (O : SpRow w base (.slice ro m rcap) m Lq) : SpIn w ro m (psOf Lq) ∧ m ≤ rcap ∧ rcap ≤ 9223372036854775807 := by
  have O2 := O.spots
  rcases O2.2 with ⟨e, h0⟩ | ⟨g', cap', cur, e, _, _, h4, h5, _⟩
  · cases e
    exact ⟨fun i hi => absurd hi (by omega), by omega, by omega⟩
  · cases e
    refine ⟨fun i hi => ?_, h4, by unfold maxLen at h5; omega⟩
    have B := ownG_blk O2
    refine ⟨g', 0, rfl, B.lt, ?_, ?_⟩
    · rw [Nat.zero_add, B.c (i * 2) (spL_at (by omega)), spW0]
    · rw [Nat.zero_add, B.c (i * 2 + 1) (spL_at (by omega)), spW1]
/-- A slice of t. -/
def SliP (t : Nat) (w : World) (e : Ending) (w' : World) : Prop := ∃ (go : Option Addr) (gc : Nat), e = .returned (.slice go t gc) ∧ Below w.heap.size w w'
theorem segs_out {t : Nat} {cs : List Value} {w w' : World} {e : Ending} (h : SdP t cs w e w') : SliP t w e w' := by
  obtain ⟨v, rfl, O, hB⟩ := h
  obtain ⟨go, gc, rfl⟩ := ownG_slice O
  exact ⟨go, gc, rfl, hB⟩
def Vrg9 (gr gm n cap cm t : Nat) (F A : Int) (u z : Ps) (_B : Nat) : Nat → Value → World → Prop
  | 0, v, _ => v = .agg #[.slice (some ⟨gm, 0, none⟩) n cm]
  | 1, v, _ => v = .int .i64 F
  | 2, v, _ => v = .int .i64 F
  | 3, v, _ => v = .bool true
  | 4, v, _ => v = .bool true
  | 5, v, _ => v = .agg #[.slice (some ⟨gm, 0, none⟩) n cm]
  | 6, v, _ => v = .int .i64 A
  | 7, v, _ => v = .agg #[.slice (some ⟨gr, 0, none⟩) n cap]
  | 8, v, _ => v = .int .i64 A
  | 9, v, _ => v = .bool true
  | 10, v, _ => v = .bool true
  | 11, v, _ => v = .bool true
  | 12, v, _ => v = .agg #[.slice (some ⟨gm, 0, none⟩) n cm]
  | 13, v, W => ∃ (go : Option Addr) (gc : Nat), v = .agg #[.slice go t gc] ∧ SpIn W go t u
  | 14, v, _ => v = .agg #[.slice (some ⟨gr, 0, none⟩) n cap]
  | 15, v, W => ∃ (go : Option Addr) (gc : Nat), v = .agg #[.slice go t gc] ∧ SpIn W go t z
  | 16, v, _ => v = .bool true
  | 17, v, _ => v = .bool true
  | 18, v, _ => v = .bool true
  | 19, v, _ => v = .agg #[.slice (some ⟨gm, 0, none⟩) n cm]
  | 20, v, _ => ∃ (go : Option Addr) (gc : Nat), v = .slice go t gc
  | 21, v, _ => v = .int .i64 (t : Nat)
  | 22, v, _ => v = .agg #[.slice (some ⟨gr, 0, none⟩) n cap]
  | 23, v, _ => ∃ (go : Option Addr) (gc : Nat), v = .slice go t gc
  | 24, v, _ => v = .int .i64 (t : Nat)
  | 25, v, _ => v = .bool true
  | 26, v, _ => v = .bool true
  | 27, v, _ => v = .bool true
  | _, _, _ => True
theorem Vrg9.mono {gr gm n cap cm t : Nat} {F A : Int} {u z : Ps} {B j : Nat} {v : Value} {W W2 : World} (hB : Below W.heap.size W W2) (h : Vrg9 gr gm n cap cm t F A u z B j v W) : Vrg9 gr gm n cap cm t F A u z B j v W2 := by
  unfold Vrg9 at *
  split <;> simp only at h <;> first | exact h | (obtain ⟨a, b, h1, h2⟩ := h; exact ⟨a, b, h1, h2.step hB⟩) | trivial
set_option maxRecDepth 100000 in
set_option maxHeartbeats 4000000 in
theorem rg9 {Q : Exit → Act → World → Prop} {gr gm n cap cm t : Nat} {F A : Int} {u z : Ps} {R3 R6 : Nat} {p q : Ps} {w0 : World} {a0 : Act} {idq : Nat} {t0 t1 t2 t3 t4 t5 t6 t7 t8 t9 t10 t11 t12 t13 t14 t15 t16 t17 t18 t19 t20 t21 t22 t23 t24 t25 t26 t27 : TypeId} {q0 q1 q2 q3 q4 q5 q6 q7 q8 q9 q10 q11 q12 q13 q14 q15 q16 q17 q18 q19 q20 q21 q22 q23 q24 q25 q26 q27 : String}
    (hS : SpIn w0 (some ⟨gr, 0, none⟩) n p) (hM : SpIn w0 (some ⟨gm, 0, none⟩) n q) (cF : ∀ w, SpIn w (some ⟨gm, 0, none⟩) n q → Calls Try.prog 6 #[.agg #[.slice (some ⟨gm, 0, none⟩) n cm]] w (VP (.int .i64 F) w)) (cA : ∀ w, SpIn w (some ⟨gm, 0, none⟩) n q → Calls Try.prog 8 #[.agg #[.slice (some ⟨gm, 0, none⟩) n cm]] w (VP (.int .i64 A) w)) (cB : ∀ w, SpIn w (some ⟨gr, 0, none⟩) n p → Calls Try.prog 8 #[.agg #[.slice (some ⟨gr, 0, none⟩) n cap]] w (VP (.int .i64 A) w)) (cU : ∀ w, SpIn w (some ⟨gm, 0, none⟩) n q → Calls Try.prog 10 #[.agg #[.slice (some ⟨gm, 0, none⟩) n cm]] w (RingP t u w)) (cZ : ∀ w, SpIn w (some ⟨gr, 0, none⟩) n p → Calls Try.prog 10 #[.agg #[.slice (some ⟨gr, 0, none⟩) n cap]] w (RingP t z w)) (cE : ∀ (xo yo : Option Addr) (ca cb : Nat) w, SpIn w xo t u → SpIn w yo t z → Calls Try.prog 9 #[.agg #[.slice xo t ca], .agg #[.slice yo t cb]] w (BoolP true w)) (cS : ∀ w, SpIn w (some ⟨gm, 0, none⟩) n q → Calls Try.prog 11 #[.agg #[.slice (some ⟨gm, 0, none⟩) n cm]] w (SliP t w)) (cT : ∀ w, SpIn w (some ⟨gr, 0, none⟩) n p → Calls Try.prog 11 #[.agg #[.slice (some ⟨gr, 0, none⟩) n cap]] w (SliP t w)) (h3 : a0.tmps[3]? = some (.pointer (some ⟨R3, 0, none⟩))) (h6 : a0.tmps[6]? = some (.pointer (some ⟨R6, 0, none⟩))) (h4 : a0.tmps[4]? = some (.int .i64 F)) (k0 : w0.cell? ⟨R3, 0, none⟩ = some (.slice (some ⟨gr, 0, none⟩) n cap)) (l0 : (⟨R3, 0, none⟩ : Addr).block < w0.heap.size) (k1 : w0.cell? ⟨R6, 0, none⟩ = some (.slice (some ⟨gm, 0, none⟩) n cm)) (l1 : (⟨R6, 0, none⟩ : Addr).block < w0.heap.size) (hz : a0.tmps.size = 72)
    (hQ : ∀ aq W, aq.tmps.size = a0.tmps.size → aq.defers = a0.defers → (∀ e, e ∉ ([45, 46, 47, 48, 49, 50, 51, 52, 53, 54, 55, 56, 57, 58, 59, 60, 61, 62, 63, 64, 65, 66, 67, 68, 69, 70, 71, 2] : List Nat) → aq.tmps[e]? = a0.tmps[e]?) → Vrg9 gr gm n cap cm t F A u z w0.heap.size 27 (aq.tmps.getD 2 undef) W → Below w0.heap.size w0 W → Q .normal aq W) :
    (Code.region idq #[{ dst := some 45, op := Op.load 26 (Operand.tmp 6), type := t0, pos := q0, after := #[], guard := none },
    { dst := some 46, op := Op.call { callee := Callee.value (Operand.func 6), args := #[Operand.tmp 45], argTypes := #[26] }, type := t1, pos := q1, after := #[{ on := 0, ground := Ground.data }], guard := none },
    { dst := some 47, op := Op.move (Operand.tmp 4), type := t2, pos := q2, after := #[], guard := none },
    { dst := some 48, op := Op.binOp BinOp.eql 2 (Operand.tmp 46) (Operand.tmp 47) 2, type := t3, pos := q3, after := #[{ on := 1, ground := Ground.data }, { on := 2, ground := Ground.data }], guard := none },
    { dst := some 49, op := Op.move (Operand.tmp 48), type := t4, pos := q4, after := #[{ on := 3, ground := Ground.data }, { on := 1, ground := Ground.chain }], guard := none },
    { dst := some 50, op := Op.load 26 (Operand.tmp 6), type := t5, pos := q5, after := #[{ on := 4, ground := Ground.guard }], guard := some (4, true) },
    { dst := some 51, op := Op.call { callee := Callee.value (Operand.func 8), args := #[Operand.tmp 50], argTypes := #[26] }, type := t6, pos := q6, after := #[{ on := 5, ground := Ground.data }, { on := 4, ground := Ground.chain }, { on := 4, ground := Ground.guard }], guard := some (4, true) },
    { dst := some 52, op := Op.load 26 (Operand.tmp 3), type := t7, pos := q7, after := #[{ on := 4, ground := Ground.guard }], guard := some (4, true) },
    { dst := some 53, op := Op.call { callee := Callee.value (Operand.func 8), args := #[Operand.tmp 52], argTypes := #[26] }, type := t8, pos := q8, after := #[{ on := 7, ground := Ground.data }, { on := 6, ground := Ground.chain }, { on := 4, ground := Ground.guard }], guard := some (4, true) },
    { dst := some 54, op := Op.binOp BinOp.eql 2 (Operand.tmp 51) (Operand.tmp 53) 2, type := t9, pos := q9, after := #[{ on := 6, ground := Ground.data }, { on := 8, ground := Ground.data }, { on := 4, ground := Ground.guard }], guard := some (4, true) },
    { dst := some 55, op := Op.pick (Operand.tmp 49) (Operand.tmp 54) (Operand.const (Value.bool false)), type := t10, pos := q10, after := #[{ on := 4, ground := Ground.data }, { on := 9, ground := Ground.data }], guard := none },
    { dst := some 56, op := Op.move (Operand.tmp 55), type := t11, pos := q11, after := #[{ on := 10, ground := Ground.data }, { on := 8, ground := Ground.chain }], guard := none },
    { dst := some 57, op := Op.load 26 (Operand.tmp 6), type := t12, pos := q12, after := #[{ on := 11, ground := Ground.guard }], guard := some (11, true) },
    { dst := some 58, op := Op.call { callee := Callee.value (Operand.func 10), args := #[Operand.tmp 57], argTypes := #[26] }, type := t13, pos := q13, after := #[{ on := 12, ground := Ground.data }, { on := 11, ground := Ground.chain }, { on := 11, ground := Ground.guard }], guard := some (11, true) },
    { dst := some 59, op := Op.load 26 (Operand.tmp 3), type := t14, pos := q14, after := #[{ on := 11, ground := Ground.guard }], guard := some (11, true) },
    { dst := some 60, op := Op.call { callee := Callee.value (Operand.func 10), args := #[Operand.tmp 59], argTypes := #[26] }, type := t15, pos := q15, after := #[{ on := 14, ground := Ground.data }, { on := 13, ground := Ground.chain }, { on := 11, ground := Ground.guard }], guard := some (11, true) },
    { dst := some 61, op := Op.call { callee := Callee.value (Operand.func 9), args := #[Operand.tmp 58, Operand.tmp 60], argTypes := #[26, 26] }, type := t16, pos := q16, after := #[{ on := 13, ground := Ground.data }, { on := 15, ground := Ground.data }, { on := 15, ground := Ground.chain }, { on := 11, ground := Ground.guard }], guard := some (11, true) },
    { dst := some 62, op := Op.pick (Operand.tmp 56) (Operand.tmp 61) (Operand.const (Value.bool false)), type := t17, pos := q17, after := #[{ on := 11, ground := Ground.data }, { on := 16, ground := Ground.data }], guard := none },
    { dst := some 63, op := Op.move (Operand.tmp 62), type := t18, pos := q18, after := #[{ on := 17, ground := Ground.data }, { on := 16, ground := Ground.chain }], guard := none },
    { dst := some 64, op := Op.load 26 (Operand.tmp 6), type := t19, pos := q19, after := #[{ on := 18, ground := Ground.guard }], guard := some (18, true) },
    { dst := some 65, op := Op.call { callee := Callee.value (Operand.func 11), args := #[Operand.tmp 64], argTypes := #[26] }, type := t20, pos := q20, after := #[{ on := 19, ground := Ground.data }, { on := 18, ground := Ground.chain }, { on := 18, ground := Ground.guard }], guard := some (18, true) },
    { dst := some 66, op := Op.call { callee := Callee.builtin Builtin.len, args := #[Operand.tmp 65], argTypes := #[31] }, type := t21, pos := q21, after := #[{ on := 20, ground := Ground.data }, { on := 18, ground := Ground.guard }], guard := some (18, true) },
    { dst := some 67, op := Op.load 26 (Operand.tmp 3), type := t22, pos := q22, after := #[{ on := 18, ground := Ground.guard }], guard := some (18, true) },
    { dst := some 68, op := Op.call { callee := Callee.value (Operand.func 11), args := #[Operand.tmp 67], argTypes := #[26] }, type := t23, pos := q23, after := #[{ on := 22, ground := Ground.data }, { on := 20, ground := Ground.chain }, { on := 18, ground := Ground.guard }], guard := some (18, true) },
    { dst := some 69, op := Op.call { callee := Callee.builtin Builtin.len, args := #[Operand.tmp 68], argTypes := #[31] }, type := t24, pos := q24, after := #[{ on := 23, ground := Ground.data }, { on := 18, ground := Ground.guard }], guard := some (18, true) },
    { dst := some 70, op := Op.binOp BinOp.eql 3 (Operand.tmp 66) (Operand.tmp 69) 3, type := t25, pos := q25, after := #[{ on := 21, ground := Ground.data }, { on := 24, ground := Ground.data }, { on := 18, ground := Ground.guard }], guard := some (18, true) },
    { dst := some 71, op := Op.pick (Operand.tmp 63) (Operand.tmp 70) (Operand.const (Value.bool false)), type := t26, pos := q26, after := #[{ on := 18, ground := Ground.data }, { on := 25, ground := Ground.data }], guard := none },
    { dst := some 2, op := Op.assign (Operand.tmp 71), type := t27, pos := q27, after := #[{ on := 26, ground := Ground.data }, { on := 23, ground := Ground.chain }, { on := 0, ground := Ground.phase }, { on := 1, ground := Ground.phase }, { on := 2, ground := Ground.phase }, { on := 3, ground := Ground.phase }, { on := 4, ground := Ground.phase }, { on := 5, ground := Ground.phase }, { on := 6, ground := Ground.phase }, { on := 7, ground := Ground.phase }, { on := 8, ground := Ground.phase }, { on := 9, ground := Ground.phase }, { on := 10, ground := Ground.phase }, { on := 11, ground := Ground.phase }, { on := 12, ground := Ground.phase }, { on := 13, ground := Ground.phase }, { on := 14, ground := Ground.phase }, { on := 15, ground := Ground.phase }, { on := 16, ground := Ground.phase }, { on := 17, ground := Ground.phase }, { on := 18, ground := Ground.phase }, { on := 19, ground := Ground.phase }, { on := 20, ground := Ground.phase }, { on := 21, ground := Ground.phase }, { on := 22, ground := Ground.phase }, { on := 23, ground := Ground.phase }, { on := 24, ground := Ground.phase }, { on := 25, ground := Ground.phase }, { on := 26, ground := Ground.phase }], guard := none }] true).wp Try.prog Q a0 w0 := by
  have hS : distS [some 45, some 46, some 47, some 48, some 49, some 50, some 51, some 52, some 53, some 54, some 55, some 56, some 57, some 58, some 59, some 60, some 61, some 62, some 63, some 64, some 65, some 66, some 67, some 68, some 69, some 70, some 71, some 2] = true := rfl
  refine wp_region_q (by kernel_rfl) w0.heap.size [some 45, some 46, some 47, some 48, some 49, some 50, some 51, some 52, some 53, some 54, some 55, some 56, some 57, some 58, some 59, some 60, some 61, some 62, some 63, some 64, some 65, some 66, some 67, some 68, some 69, some 70, some 71, some 2] (Vrg9 gr gm n cap cm t F A u z w0.heap.size) rfl ?_ ?_
  · intro Q lq aq W iq oq hJ hl ho hall
    have hJ2 := hJ
    obtain ⟨z1, z2, z3, z4, z5, z6, z7⟩ := hJ
    have g3 : aq.tmps.getD 3 undef = .pointer (some ⟨R3, 0, none⟩) := by rw [Array.getD_eq_getD_getElem?, z4 3 (by decide), h3]; rfl
    have g6 : aq.tmps.getD 6 undef = .pointer (some ⟨R6, 0, none⟩) := by rw [Array.getD_eq_getD_getElem?, z4 6 (by decide), h6]; rfl
    have g4 : aq.tmps.getD 4 undef = .int .i64 F := by rw [Array.getD_eq_getD_getElem?, z4 4 (by decide), h4]; rfl
    have c0 : W.cell? ⟨R3, 0, none⟩ = some (.slice (some ⟨gr, 0, none⟩) n cap) := (z5.cell l0).trans k0
    have c1 : W.cell? ⟨R6, 0, none⟩ = some (.slice (some ⟨gm, 0, none⟩) n cm) := (z5.cell l1).trans k1
    match iq, ho with
    | 0, ho =>
      cases ho
      refine wpOp_of rfl rfl ?_
      have hK := fun (v : Value) (W2 : World) hW hT hv => hJ2.put hS 0 45 rfl (by omega) (W' := W2) hW hT v hv
      clear ho hall hl hQ
      generalize InvQ _ _ _ w0 a0 (lq.setIfInBounds 0 true) = K at hK ⊢
      clear hJ2 hS z1 z2 z3 z4 z6 z7
      go_simp
      exact hK _ _ z5 (fun _ _ h => h) rfl
    | 1, ho =>
      cases ho
      refine wpOp_of rfl rfl ?_
      have f0 : (aq.tmps.getD 45 undef) = .agg #[.slice (some ⟨gm, 0, none⟩) n cm] := z6 0 45 (hall { on := 0, ground := Ground.data } (by simp) rfl) rfl
      have hK := fun (v : Value) (W2 : World) hW hT hv => hJ2.put hS 1 46 rfl (by omega) (W' := W2) hW hT v hv
      clear ho hall hl hQ
      generalize InvQ _ _ _ w0 a0 (lq.setIfInBounds 1 true) = K at hK ⊢
      clear hJ2 hS z1 z2 z3 z4 z6 z7
      go_simp
      refine (cF W (hM.step z5)).mono ?_
      rintro e v1 ⟨rfl, hBv⟩
      exact hK _ _ (z5.trans (hBv.mono z5.size)) (fun _ _ h => h.mono hBv) rfl
    | 2, ho =>
      cases ho
      refine wpOp_of rfl rfl ?_
      have hK := fun (v : Value) (W2 : World) hW hT hv => hJ2.put hS 2 47 rfl (by omega) (W' := W2) hW hT v hv
      clear ho hall hl hQ
      generalize InvQ _ _ _ w0 a0 (lq.setIfInBounds 2 true) = K at hK ⊢
      clear hJ2 hS z1 z2 z3 z4 z6 z7
      go_simp
      exact hK _ _ z5 (fun _ _ h => h) rfl
    | 3, ho =>
      cases ho
      refine wpOp_of rfl rfl ?_
      have f1 : (aq.tmps.getD 46 undef) = .int .i64 F := z6 1 46 (hall { on := 1, ground := Ground.data } (by simp) rfl) rfl
      have f2 : (aq.tmps.getD 47 undef) = .int .i64 F := z6 2 47 (hall { on := 2, ground := Ground.data } (by simp) rfl) rfl
      have hK := fun (v : Value) (W2 : World) hW hT hv => hJ2.put hS 3 48 rfl (by omega) (W' := W2) hW hT v hv
      clear ho hall hl hQ
      generalize InvQ _ _ _ w0 a0 (lq.setIfInBounds 3 true) = K at hK ⊢
      clear hJ2 hS z1 z2 z3 z4 z6 z7
      go_simp
      exact hK _ _ z5 (fun _ _ h => h) rfl
    | 4, ho =>
      cases ho
      refine wpOp_of rfl rfl ?_
      have f3 : (aq.tmps.getD 48 undef) = .bool true := z6 3 48 (hall { on := 3, ground := Ground.data } (by simp) rfl) rfl
      have hK := fun (v : Value) (W2 : World) hW hT hv => hJ2.put hS 4 49 rfl (by omega) (W' := W2) hW hT v hv
      clear ho hall hl hQ
      generalize InvQ _ _ _ w0 a0 (lq.setIfInBounds 4 true) = K at hK ⊢
      clear hJ2 hS z1 z2 z3 z4 z6 z7
      go_simp
      exact hK _ _ z5 (fun _ _ h => h) rfl
    | 5, ho =>
      cases ho
      have fg : aq.tmps.getD 49 undef = .bool true := z6 4 49 (hall { on := 4, ground := Ground.guard } (by simp) rfl) rfl
      refine wpOp_on rfl rfl rfl rfl fg ?_
      have hK := fun (v : Value) (W2 : World) hW hT hv => hJ2.put hS 5 50 rfl (by omega) (W' := W2) hW hT v hv
      clear ho hall hl hQ
      generalize InvQ _ _ _ w0 a0 (lq.setIfInBounds 5 true) = K at hK ⊢
      clear hJ2 hS z1 z2 z3 z4 z6 z7
      go_simp
      exact hK _ _ z5 (fun _ _ h => h) rfl
    | 6, ho =>
      cases ho
      have fg : aq.tmps.getD 49 undef = .bool true := z6 4 49 (hall { on := 4, ground := Ground.guard } (by simp) rfl) rfl
      refine wpOp_on rfl rfl rfl rfl fg ?_
      have f5 : (aq.tmps.getD 50 undef) = .agg #[.slice (some ⟨gm, 0, none⟩) n cm] := z6 5 50 (hall { on := 5, ground := Ground.data } (by simp) rfl) rfl
      have hK := fun (v : Value) (W2 : World) hW hT hv => hJ2.put hS 6 51 rfl (by omega) (W' := W2) hW hT v hv
      clear ho hall hl hQ
      generalize InvQ _ _ _ w0 a0 (lq.setIfInBounds 6 true) = K at hK ⊢
      clear hJ2 hS z1 z2 z3 z4 z6 z7
      go_simp
      refine (cA W (hM.step z5)).mono ?_
      rintro e v1 ⟨rfl, hBv⟩
      exact hK _ _ (z5.trans (hBv.mono z5.size)) (fun _ _ h => h.mono hBv) rfl
    | 7, ho =>
      cases ho
      have fg : aq.tmps.getD 49 undef = .bool true := z6 4 49 (hall { on := 4, ground := Ground.guard } (by simp) rfl) rfl
      refine wpOp_on rfl rfl rfl rfl fg ?_
      have hK := fun (v : Value) (W2 : World) hW hT hv => hJ2.put hS 7 52 rfl (by omega) (W' := W2) hW hT v hv
      clear ho hall hl hQ
      generalize InvQ _ _ _ w0 a0 (lq.setIfInBounds 7 true) = K at hK ⊢
      clear hJ2 hS z1 z2 z3 z4 z6 z7
      go_simp
      exact hK _ _ z5 (fun _ _ h => h) rfl
    | 8, ho =>
      cases ho
      have fg : aq.tmps.getD 49 undef = .bool true := z6 4 49 (hall { on := 4, ground := Ground.guard } (by simp) rfl) rfl
      refine wpOp_on rfl rfl rfl rfl fg ?_
      have f7 : (aq.tmps.getD 52 undef) = .agg #[.slice (some ⟨gr, 0, none⟩) n cap] := z6 7 52 (hall { on := 7, ground := Ground.data } (by simp) rfl) rfl
      have hK := fun (v : Value) (W2 : World) hW hT hv => hJ2.put hS 8 53 rfl (by omega) (W' := W2) hW hT v hv
      clear ho hall hl hQ
      generalize InvQ _ _ _ w0 a0 (lq.setIfInBounds 8 true) = K at hK ⊢
      clear hJ2 hS z1 z2 z3 z4 z6 z7
      go_simp
      refine (cB W (hS.step z5)).mono ?_
      rintro e v1 ⟨rfl, hBv⟩
      exact hK _ _ (z5.trans (hBv.mono z5.size)) (fun _ _ h => h.mono hBv) rfl
    | 9, ho =>
      cases ho
      have fg : aq.tmps.getD 49 undef = .bool true := z6 4 49 (hall { on := 4, ground := Ground.guard } (by simp) rfl) rfl
      refine wpOp_on rfl rfl rfl rfl fg ?_
      have f6 : (aq.tmps.getD 51 undef) = .int .i64 A := z6 6 51 (hall { on := 6, ground := Ground.data } (by simp) rfl) rfl
      have f8 : (aq.tmps.getD 53 undef) = .int .i64 A := z6 8 53 (hall { on := 8, ground := Ground.data } (by simp) rfl) rfl
      have hK := fun (v : Value) (W2 : World) hW hT hv => hJ2.put hS 9 54 rfl (by omega) (W' := W2) hW hT v hv
      clear ho hall hl hQ
      generalize InvQ _ _ _ w0 a0 (lq.setIfInBounds 9 true) = K at hK ⊢
      clear hJ2 hS z1 z2 z3 z4 z6 z7
      go_simp
      exact hK _ _ z5 (fun _ _ h => h) rfl
    | 10, ho =>
      cases ho
      refine wpOp_of rfl rfl ?_
      have f4 : (aq.tmps.getD 49 undef) = .bool true := z6 4 49 (hall { on := 4, ground := Ground.data } (by simp) rfl) rfl
      have f9 : (aq.tmps.getD 54 undef) = .bool true := z6 9 54 (hall { on := 9, ground := Ground.data } (by simp) rfl) rfl
      have hK := fun (v : Value) (W2 : World) hW hT hv => hJ2.put hS 10 55 rfl (by omega) (W' := W2) hW hT v hv
      clear ho hall hl hQ
      generalize InvQ _ _ _ w0 a0 (lq.setIfInBounds 10 true) = K at hK ⊢
      clear hJ2 hS z1 z2 z3 z4 z6 z7
      go_simp
      exact hK _ _ z5 (fun _ _ h => h) rfl
    | 11, ho =>
      cases ho
      refine wpOp_of rfl rfl ?_
      have f10 : (aq.tmps.getD 55 undef) = .bool true := z6 10 55 (hall { on := 10, ground := Ground.data } (by simp) rfl) rfl
      have hK := fun (v : Value) (W2 : World) hW hT hv => hJ2.put hS 11 56 rfl (by omega) (W' := W2) hW hT v hv
      clear ho hall hl hQ
      generalize InvQ _ _ _ w0 a0 (lq.setIfInBounds 11 true) = K at hK ⊢
      clear hJ2 hS z1 z2 z3 z4 z6 z7
      go_simp
      exact hK _ _ z5 (fun _ _ h => h) rfl
    | 12, ho =>
      cases ho
      have fg : aq.tmps.getD 56 undef = .bool true := z6 11 56 (hall { on := 11, ground := Ground.guard } (by simp) rfl) rfl
      refine wpOp_on rfl rfl rfl rfl fg ?_
      have hK := fun (v : Value) (W2 : World) hW hT hv => hJ2.put hS 12 57 rfl (by omega) (W' := W2) hW hT v hv
      clear ho hall hl hQ
      generalize InvQ _ _ _ w0 a0 (lq.setIfInBounds 12 true) = K at hK ⊢
      clear hJ2 hS z1 z2 z3 z4 z6 z7
      go_simp
      exact hK _ _ z5 (fun _ _ h => h) rfl
    | 13, ho =>
      cases ho
      have fg : aq.tmps.getD 56 undef = .bool true := z6 11 56 (hall { on := 11, ground := Ground.guard } (by simp) rfl) rfl
      refine wpOp_on rfl rfl rfl rfl fg ?_
      have f12 : (aq.tmps.getD 57 undef) = .agg #[.slice (some ⟨gm, 0, none⟩) n cm] := z6 12 57 (hall { on := 12, ground := Ground.data } (by simp) rfl) rfl
      have hK := fun (v : Value) (W2 : World) hW hT hv => hJ2.put hS 13 58 rfl (by omega) (W' := W2) hW hT v hv
      clear ho hall hl hQ
      generalize InvQ _ _ _ w0 a0 (lq.setIfInBounds 13 true) = K at hK ⊢
      clear hJ2 hS z1 z2 z3 z4 z6 z7
      go_simp
      refine (cU W (hM.step z5)).mono ?_
      intro e v1 hr
      obtain ⟨go, gc, rfl, hI, hBv⟩ := form_out hr
      exact hK _ _ (z5.trans (hBv.mono z5.size)) (fun _ _ h => h.mono hBv) ⟨go, gc, rfl, hI⟩
    | 14, ho =>
      cases ho
      have fg : aq.tmps.getD 56 undef = .bool true := z6 11 56 (hall { on := 11, ground := Ground.guard } (by simp) rfl) rfl
      refine wpOp_on rfl rfl rfl rfl fg ?_
      have hK := fun (v : Value) (W2 : World) hW hT hv => hJ2.put hS 14 59 rfl (by omega) (W' := W2) hW hT v hv
      clear ho hall hl hQ
      generalize InvQ _ _ _ w0 a0 (lq.setIfInBounds 14 true) = K at hK ⊢
      clear hJ2 hS z1 z2 z3 z4 z6 z7
      go_simp
      exact hK _ _ z5 (fun _ _ h => h) rfl
    | 15, ho =>
      cases ho
      have fg : aq.tmps.getD 56 undef = .bool true := z6 11 56 (hall { on := 11, ground := Ground.guard } (by simp) rfl) rfl
      refine wpOp_on rfl rfl rfl rfl fg ?_
      have f14 : (aq.tmps.getD 59 undef) = .agg #[.slice (some ⟨gr, 0, none⟩) n cap] := z6 14 59 (hall { on := 14, ground := Ground.data } (by simp) rfl) rfl
      have hK := fun (v : Value) (W2 : World) hW hT hv => hJ2.put hS 15 60 rfl (by omega) (W' := W2) hW hT v hv
      clear ho hall hl hQ
      generalize InvQ _ _ _ w0 a0 (lq.setIfInBounds 15 true) = K at hK ⊢
      clear hJ2 hS z1 z2 z3 z4 z6 z7
      go_simp
      refine (cZ W (hS.step z5)).mono ?_
      intro e v1 hr
      obtain ⟨go, gc, rfl, hI, hBv⟩ := form_out hr
      exact hK _ _ (z5.trans (hBv.mono z5.size)) (fun _ _ h => h.mono hBv) ⟨go, gc, rfl, hI⟩
    | 16, ho =>
      cases ho
      have fg : aq.tmps.getD 56 undef = .bool true := z6 11 56 (hall { on := 11, ground := Ground.guard } (by simp) rfl) rfl
      refine wpOp_on rfl rfl rfl rfl fg ?_
      have f13 : ∃ (go : Option Addr) (gc : Nat), (aq.tmps.getD 58 undef) = .agg #[.slice go t gc] ∧ SpIn W go t u := z6 13 58 (hall { on := 13, ground := Ground.data } (by simp) rfl) rfl
      obtain ⟨o13, c13, f13, i13⟩ := f13
      have f15 : ∃ (go : Option Addr) (gc : Nat), (aq.tmps.getD 60 undef) = .agg #[.slice go t gc] ∧ SpIn W go t z := z6 15 60 (hall { on := 15, ground := Ground.data } (by simp) rfl) rfl
      obtain ⟨o15, c15, f15, i15⟩ := f15
      have hK := fun (v : Value) (W2 : World) hW hT hv => hJ2.put hS 16 61 rfl (by omega) (W' := W2) hW hT v hv
      clear ho hall hl hQ
      generalize InvQ _ _ _ w0 a0 (lq.setIfInBounds 16 true) = K at hK ⊢
      clear hJ2 hS z1 z2 z3 z4 z6 z7
      go_simp
      refine (cE _ _ _ _ W i13 i15).mono ?_
      rintro e v1 ⟨rfl, hBv⟩
      exact hK _ _ (z5.trans (hBv.mono z5.size)) (fun _ _ h => h.mono hBv) rfl
    | 17, ho =>
      cases ho
      refine wpOp_of rfl rfl ?_
      have f11 : (aq.tmps.getD 56 undef) = .bool true := z6 11 56 (hall { on := 11, ground := Ground.data } (by simp) rfl) rfl
      have f16 : (aq.tmps.getD 61 undef) = .bool true := z6 16 61 (hall { on := 16, ground := Ground.data } (by simp) rfl) rfl
      have hK := fun (v : Value) (W2 : World) hW hT hv => hJ2.put hS 17 62 rfl (by omega) (W' := W2) hW hT v hv
      clear ho hall hl hQ
      generalize InvQ _ _ _ w0 a0 (lq.setIfInBounds 17 true) = K at hK ⊢
      clear hJ2 hS z1 z2 z3 z4 z6 z7
      go_simp
      exact hK _ _ z5 (fun _ _ h => h) rfl
    | 18, ho =>
      cases ho
      refine wpOp_of rfl rfl ?_
      have f17 : (aq.tmps.getD 62 undef) = .bool true := z6 17 62 (hall { on := 17, ground := Ground.data } (by simp) rfl) rfl
      have hK := fun (v : Value) (W2 : World) hW hT hv => hJ2.put hS 18 63 rfl (by omega) (W' := W2) hW hT v hv
      clear ho hall hl hQ
      generalize InvQ _ _ _ w0 a0 (lq.setIfInBounds 18 true) = K at hK ⊢
      clear hJ2 hS z1 z2 z3 z4 z6 z7
      go_simp
      exact hK _ _ z5 (fun _ _ h => h) rfl
    | 19, ho =>
      cases ho
      have fg : aq.tmps.getD 63 undef = .bool true := z6 18 63 (hall { on := 18, ground := Ground.guard } (by simp) rfl) rfl
      refine wpOp_on rfl rfl rfl rfl fg ?_
      have hK := fun (v : Value) (W2 : World) hW hT hv => hJ2.put hS 19 64 rfl (by omega) (W' := W2) hW hT v hv
      clear ho hall hl hQ
      generalize InvQ _ _ _ w0 a0 (lq.setIfInBounds 19 true) = K at hK ⊢
      clear hJ2 hS z1 z2 z3 z4 z6 z7
      go_simp
      exact hK _ _ z5 (fun _ _ h => h) rfl
    | 20, ho =>
      cases ho
      have fg : aq.tmps.getD 63 undef = .bool true := z6 18 63 (hall { on := 18, ground := Ground.guard } (by simp) rfl) rfl
      refine wpOp_on rfl rfl rfl rfl fg ?_
      have f19 : (aq.tmps.getD 64 undef) = .agg #[.slice (some ⟨gm, 0, none⟩) n cm] := z6 19 64 (hall { on := 19, ground := Ground.data } (by simp) rfl) rfl
      have hK := fun (v : Value) (W2 : World) hW hT hv => hJ2.put hS 20 65 rfl (by omega) (W' := W2) hW hT v hv
      clear ho hall hl hQ
      generalize InvQ _ _ _ w0 a0 (lq.setIfInBounds 20 true) = K at hK ⊢
      clear hJ2 hS z1 z2 z3 z4 z6 z7
      go_simp
      refine (cS W (hM.step z5)).mono ?_
      rintro e v1 ⟨go, gc, rfl, hBv⟩
      exact hK _ _ (z5.trans (hBv.mono z5.size)) (fun _ _ h => h.mono hBv) ⟨go, gc, rfl⟩
    | 21, ho =>
      cases ho
      have fg : aq.tmps.getD 63 undef = .bool true := z6 18 63 (hall { on := 18, ground := Ground.guard } (by simp) rfl) rfl
      refine wpOp_on rfl rfl rfl rfl fg ?_
      have f20 : ∃ (go : Option Addr) (gc : Nat), (aq.tmps.getD 65 undef) = .slice go t gc := z6 20 65 (hall { on := 20, ground := Ground.data } (by simp) rfl) rfl
      obtain ⟨o20, c20, f20⟩ := f20
      have hK := fun (v : Value) (W2 : World) hW hT hv => hJ2.put hS 21 66 rfl (by omega) (W' := W2) hW hT v hv
      clear ho hall hl hQ
      generalize InvQ _ _ _ w0 a0 (lq.setIfInBounds 21 true) = K at hK ⊢
      clear hJ2 hS z1 z2 z3 z4 z6 z7
      go_simp
      exact hK _ _ z5 (fun _ _ h => h) rfl
    | 22, ho =>
      cases ho
      have fg : aq.tmps.getD 63 undef = .bool true := z6 18 63 (hall { on := 18, ground := Ground.guard } (by simp) rfl) rfl
      refine wpOp_on rfl rfl rfl rfl fg ?_
      have hK := fun (v : Value) (W2 : World) hW hT hv => hJ2.put hS 22 67 rfl (by omega) (W' := W2) hW hT v hv
      clear ho hall hl hQ
      generalize InvQ _ _ _ w0 a0 (lq.setIfInBounds 22 true) = K at hK ⊢
      clear hJ2 hS z1 z2 z3 z4 z6 z7
      go_simp
      exact hK _ _ z5 (fun _ _ h => h) rfl
    | 23, ho =>
      cases ho
      have fg : aq.tmps.getD 63 undef = .bool true := z6 18 63 (hall { on := 18, ground := Ground.guard } (by simp) rfl) rfl
      refine wpOp_on rfl rfl rfl rfl fg ?_
      have f22 : (aq.tmps.getD 67 undef) = .agg #[.slice (some ⟨gr, 0, none⟩) n cap] := z6 22 67 (hall { on := 22, ground := Ground.data } (by simp) rfl) rfl
      have hK := fun (v : Value) (W2 : World) hW hT hv => hJ2.put hS 23 68 rfl (by omega) (W' := W2) hW hT v hv
      clear ho hall hl hQ
      generalize InvQ _ _ _ w0 a0 (lq.setIfInBounds 23 true) = K at hK ⊢
      clear hJ2 hS z1 z2 z3 z4 z6 z7
      go_simp
      refine (cT W (hS.step z5)).mono ?_
      rintro e v1 ⟨go, gc, rfl, hBv⟩
      exact hK _ _ (z5.trans (hBv.mono z5.size)) (fun _ _ h => h.mono hBv) ⟨go, gc, rfl⟩
    | 24, ho =>
      cases ho
      have fg : aq.tmps.getD 63 undef = .bool true := z6 18 63 (hall { on := 18, ground := Ground.guard } (by simp) rfl) rfl
      refine wpOp_on rfl rfl rfl rfl fg ?_
      have f23 : ∃ (go : Option Addr) (gc : Nat), (aq.tmps.getD 68 undef) = .slice go t gc := z6 23 68 (hall { on := 23, ground := Ground.data } (by simp) rfl) rfl
      obtain ⟨o23, c23, f23⟩ := f23
      have hK := fun (v : Value) (W2 : World) hW hT hv => hJ2.put hS 24 69 rfl (by omega) (W' := W2) hW hT v hv
      clear ho hall hl hQ
      generalize InvQ _ _ _ w0 a0 (lq.setIfInBounds 24 true) = K at hK ⊢
      clear hJ2 hS z1 z2 z3 z4 z6 z7
      go_simp
      exact hK _ _ z5 (fun _ _ h => h) rfl
    | 25, ho =>
      cases ho
      have fg : aq.tmps.getD 63 undef = .bool true := z6 18 63 (hall { on := 18, ground := Ground.guard } (by simp) rfl) rfl
      refine wpOp_on rfl rfl rfl rfl fg ?_
      have f21 : (aq.tmps.getD 66 undef) = .int .i64 (t : Nat) := z6 21 66 (hall { on := 21, ground := Ground.data } (by simp) rfl) rfl
      have f24 : (aq.tmps.getD 69 undef) = .int .i64 (t : Nat) := z6 24 69 (hall { on := 24, ground := Ground.data } (by simp) rfl) rfl
      have hK := fun (v : Value) (W2 : World) hW hT hv => hJ2.put hS 25 70 rfl (by omega) (W' := W2) hW hT v hv
      clear ho hall hl hQ
      generalize InvQ _ _ _ w0 a0 (lq.setIfInBounds 25 true) = K at hK ⊢
      clear hJ2 hS z1 z2 z3 z4 z6 z7
      go_simp
      exact hK _ _ z5 (fun _ _ h => h) rfl
    | 26, ho =>
      cases ho
      refine wpOp_of rfl rfl ?_
      have f18 : (aq.tmps.getD 63 undef) = .bool true := z6 18 63 (hall { on := 18, ground := Ground.data } (by simp) rfl) rfl
      have f25 : (aq.tmps.getD 70 undef) = .bool true := z6 25 70 (hall { on := 25, ground := Ground.data } (by simp) rfl) rfl
      have hK := fun (v : Value) (W2 : World) hW hT hv => hJ2.put hS 26 71 rfl (by omega) (W' := W2) hW hT v hv
      clear ho hall hl hQ
      generalize InvQ _ _ _ w0 a0 (lq.setIfInBounds 26 true) = K at hK ⊢
      clear hJ2 hS z1 z2 z3 z4 z6 z7
      go_simp
      exact hK _ _ z5 (fun _ _ h => h) rfl
    | 27, ho =>
      cases ho
      refine wpOp_of rfl rfl ?_
      have f26 : (aq.tmps.getD 71 undef) = .bool true := z6 26 71 (hall { on := 26, ground := Ground.data } (by simp) rfl) rfl
      have hK := fun (v : Value) (W2 : World) hW hT hv => hJ2.put hS 27 2 rfl (by omega) (W' := W2) hW hT v hv
      clear ho hall hl hQ
      generalize InvQ _ _ _ w0 a0 (lq.setIfInBounds 27 true) = K at hK ⊢
      clear hJ2 hS z1 z2 z3 z4 z6 z7
      go_simp
      exact hK _ _ z5 (fun _ _ h => h) rfl
    | iq + 28, ho => simp at ho
  · intro lq aq W hJ hr
    obtain ⟨z1, z2, z3, z4, z5, z6, z7⟩ := hJ
    have hl := listed_of hr [0, 1, 2, 3, 4, 5, 6, 7, 8, 9, 10, 11, 12, 13, 14, 15, 16, 17, 18, 19, 20, 21, 22, 23, 24, 25, 26, 27] [] (by simp) (by kernel_rfl) (by rw [z1]; decide)
    exact hQ aq W z2 z3 (fun e he => z4 e (by simpa using he)) (z6 27 2 (hl 27 (by simp)) rfl) z5
end Go.Proofs.Ytbhhegmlfclhbaa

/- A ring that begins at another spot has the same fault, area and form: the law over drawn ones. -/
namespace Go.Proofs.Ytbhhegmlfclhbaa
open Go.RowKit
theorem bigr_any (ao : Option Addr) (n cap : Nat) (w : World) (z : Bool) (hz : decide (1048576 < n) = z) : Calls Try.prog 4 #[.slice ao n cap] w (BoolP z w) := by
  subst hz
  go_enter Try.func4, Try.ntmps4
  go_wp2
  go_ret
  exact ⟨by simp; try omega, Below.refl _ _⟩
set_option maxRecDepth 100000 in
set_option maxHeartbeats 8000000 in
theorem lawRingMoved_any (ao : Option Addr) (n cap : Nat) (cs : List Int) (w : World) (h : n ≤ 1048576 → Code w ao n cs) : Calls Try.prog 3 #[.slice ao n cap] w (BoolP true w) := by
  by_cases hn : 1048576 < n
  · go_enter Try.func3, Try.ntmps3
    go_wp2_with fail
    refine (bigr_any ao n cap _ true (by simpa using hn)).mono ?_
    rintro e w1 ⟨rfl, hB⟩
    clear h
    go_wp2
    go_ret
    exact ⟨rfl, hB⟩
  · have hc := h (by omega)
    clear h
    go_enter Try.func3, Try.ntmps3
    go_wp2_with fail
    refine (bigr_any ao n cap _ false (by simpa using hn)).mono ?_
    rintro e w1 ⟨rfl, HB⟩
    replace hc := hc.below HB
    go_wp2_with fail
    refine (drawRingFault_any ao n cap cs _ hc).mono ?_
    rintro e w2 ⟨v, m, Lq, rfl, hm, O, hB⟩
    replace HB := HB.trans (hB.mono HB.size)
    clear hB hc
    obtain ⟨ro, rcap, rfl⟩ := ownG_slice O
    obtain ⟨HS, hcp, hcp2⟩ := row_in O
    have HO : Hid (SpRow w2 w1.heap.size (.slice ro m rcap) m Lq) := O
    clear O
    generalize psOf Lq = p at HS
    have CI := fun w h => implRingFault_any ro m rcap p (by omega) hcp hcp2 w h
    have CS := fun w h => specRingFault_any ro m rcap p (by omega) w h
    generalize hF : rgF m p = F at CI CS
    have e0 : (F != F) = false := by simp
    have e1 : (F == F) = true := by simp
    have X3 : Blk (w2.alloc (.cells #[.slice ro m rcap] 26)) w2.heap.size [.slice ro m rcap] := Blk.new w2 [.slice ro m rcap] 26 rfl
    replace HS := HS.step ((Below.refl w2.heap.size w2).alloc (Nat.le_refl _) (.cells #[.slice ro m rcap] 26))
    replace HB : Below w.heap.size w (w2.alloc (.cells #[.slice ro m rcap] 26)) := HB.alloc HB.size _
    go_upto_region 4 with fail
    revert X3 HS HB
    generalize (w2.alloc (.cells #[.slice ro m rcap] 26)) = W3
    generalize w2.heap.size = R3
    intro X3 HS HB
    have c0 := X3.c 0 rfl
    go_wp2_with fail
    clear c0
    refine (CI _ HS).mono ?_
    rintro e w4 ⟨rfl, hB⟩
    replace HB := HB.trans (hB.mono HB.size)
    replace HS := HS.step hB
    replace X3 := X3.step hB
    clear hB CI
    have c0 := X3.c 0 rfl
    go_wp2_with fail
    clear c0
    refine (CS _ HS).mono ?_
    rintro e w5 ⟨rfl, hB⟩
    replace HB := HB.trans (hB.mono HB.size)
    replace HS := HS.step hB
    replace X3 := X3.step hB
    clear hB
    by_cases hm0 : m = 0
    · subst hm0
      have c0 := X3.c 0 rfl
      go_wp2_with fail
      clear c0
      refine (CS _ HS).mono ?_
      rintro e w6 ⟨rfl, hB⟩
      replace HB := HB.trans (hB.mono HB.size)
      clear hB CS HS X3
      go_wp2
      go_ret
      exact ⟨rfl, HB⟩
    · obtain ⟨gr, cq, eq, _, _, _⟩ := ownG_form HO.out (by omega)
      cases eq
      clear CS HO
      have hk : n % m < m := Nat.mod_lt _ (by omega)
      have q1 : ((m : Int) == 0) = false := beq_eq_false_iff_ne.2 (by omega)
      have q2 : ¬ (m : Int) = 0 := by omega
      have q3 : Int.tmod (n : Int) (m : Int) = ((n % m : Nat) : Int) := by rw [Int.tmod_eq_emod_of_nonneg (by omega)]; exact (Int.natCast_emod n m).symm
      have q4 : IntKind.i64.wrap ((n % m : Nat) : Int) = ((n % m : Nat) : Int) := by rw [IntKind.wrap_i64]; omega
      have c0 := X3.c 0 rfl
      go_upto_region 8 with fail
      clear q1 q2 q3 q4
      rw [← Int.natCast_emod n m]
      generalize n % m = k at *
      refine rf8 (R3 := R3) (gr := gr) (n := m) (cap := rcap) (k := k) (B4 := w5.heap.size) (p := p) rfl hk hm (by omega) (by omega) (by omega) HS rfl rfl c0 X3.lt rfl ?_
      rintro ⟨tm, df⟩ W6 hz hdf hoff _ hBz ⟨R6, gm, cm, h6, l6, X6, O6⟩
      simp only at hz hdf hoff
      change tm.getD 6 undef = .pointer (some ⟨R6, 0, none⟩) at h6
      subst hdf
      have htm := tmps_fold [33, 34, 35, 36, 37, 38, 39, 40, 41, 42, 43, 44, 6] tm _ hz hoff
      simp only [List.foldl, List.setIfInBounds_toArray, List.set_cons_zero, List.set_cons_succ, h6] at htm
      clear hz hoff
      generalize tm.getD 33 undef = s0, tm.getD 34 undef = s1, tm.getD 35 undef = s2, tm.getD 36 undef = s3, tm.getD 37 undef = s4, tm.getD 38 undef = s5, tm.getD 39 undef = s6, tm.getD 40 undef = s7, tm.getD 41 undef = s8, tm.getD 42 undef = s9, tm.getD 43 undef = s10, tm.getD 44 undef = s11 at htm
      clear h6
      subst htm
      replace HB := HB.trans (hBz.mono HB.size)
      replace HS := HS.step hBz
      replace X3 := X3.step hBz
      have HM : SpIn W6 (some ⟨gm, 0, none⟩) m (rtP m k p) ∧ m ≤ cm ∧ cm ≤ 9223372036854775807 := by
        rcases O6.2 with ⟨e, h0⟩ | ⟨g', cap', cur, e, _, _, h4, h5, _⟩
        · cases e
        · cases e
          refine ⟨fun i hi => ?_, h4, by unfold maxLen at h5; omega⟩
          have B := ownG_blk O6
          refine ⟨gm, 0, rfl, B.lt, ?_, ?_⟩
          · rw [Nat.zero_add, B.c (i * 2) (spL_at (by omega)), spW0]
          · rw [Nat.zero_add, B.c (i * 2 + 1) (spL_at (by omega)), spW1]
      obtain ⟨HM, hm1, hm2⟩ := HM
      clear hBz c0 O6
      have hFr := rt_fault (p := p) hk
      have hRa : raV m (rtP m k p) = raV m p := by unfold raV; rw [hFr, rt_area p hk]
      have hTu : tuN m (rtP m k p) = tuN m p := by unfold tuN; rw [hFr]
      have hFm : ∀ i, i < tuN m p → fmP m (rtP m k p) i = fmP m p i := by
        intro i hi
        unfold tuN at hi
        split at hi
        · rename_i h0
          exact rt_form hk h0 i hi
        · omega
      have htn : tuN m p ≤ 1048576 := by unfold tuN; split <;> omega
      go_upto_region 9 with fail
      refine rg9 (R3 := R3) (R6 := R6) (gr := gr) (gm := gm) (n := m) (cap := rcap) (cm := cm) (t := tuN m p) (F := F) (A := raV m p) (p := p) (q := rtP m k p) (u := fmP m (rtP m k p)) (z := fmP m p) HS HM ?_ ?_ ?_ ?_ ?_ ?_ ?_ ?_ rfl rfl rfl (X3.c 0 rfl) X3.lt (X6.c 0 rfl) X6.lt rfl ?_
      · intro w h
        have := implRingFault_any (some ⟨gm, 0, none⟩) m cm (rtP m k p) (by omega) hm1 hm2 w h
        rw [hFr, hF] at this
        exact this
      · intro w h
        have := implRingArea2_any (some ⟨gm, 0, none⟩) m cm (rtP m k p) (by omega) hm1 hm2 w h
        rw [hRa] at this
        exact this
      · exact fun w h => implRingArea2_any (some ⟨gr, 0, none⟩) m rcap p (by omega) hcp hcp2 w h
      · intro w h
        have := implForm_in gm m cm (rtP m k p) (by omega) hm1 hm2 w h
        rw [hTu] at this
        exact this
      · exact fun w h => implForm_in gr m rcap p (by omega) hcp hcp2 w h
      · exact fun xo yo ca cb w h1 h2 => sameRing_any xo yo _ ca cb _ _ hFm htn w h1 h2
      · intro w h
        have := implSegs_all (some ⟨gm, 0, none⟩) m cm (rtP m k p) (by omega) hm1 hm2 w h
        rw [hTu] at this
        exact this.mono fun _ _ h => segs_out h
      · exact fun w h => (implSegs_all (some ⟨gr, 0, none⟩) m rcap p (by omega) hcp hcp2 w h).mono fun _ _ h => segs_out h
      rintro ⟨tm, df⟩ W7 hz hdf hoff h2 hBz
      simp only at hz hdf hoff
      change tm.getD 2 undef = .bool true at h2
      subst hdf
      have htm := tmps_fold [45, 46, 47, 48, 49, 50, 51, 52, 53, 54, 55, 56, 57, 58, 59, 60, 61, 62, 63, 64, 65, 66, 67, 68, 69, 70, 71, 2] tm _ hz hoff
      simp only [List.foldl, List.setIfInBounds_toArray, List.set_cons_zero, List.set_cons_succ, h2] at htm
      clear hz hoff
      generalize tm.getD 45 undef = r0, tm.getD 46 undef = r1, tm.getD 47 undef = r2, tm.getD 48 undef = r3, tm.getD 49 undef = r4, tm.getD 50 undef = r5, tm.getD 51 undef = r6, tm.getD 52 undef = r7, tm.getD 53 undef = r8, tm.getD 54 undef = r9, tm.getD 55 undef = r10, tm.getD 56 undef = r11, tm.getD 57 undef = r12, tm.getD 58 undef = r13, tm.getD 59 undef = r14, tm.getD 60 undef = r15, tm.getD 61 undef = r16, tm.getD 62 undef = r17, tm.getD 63 undef = r18, tm.getD 64 undef = r19, tm.getD 65 undef = r20, tm.getD 66 undef = r21, tm.getD 67 undef = r22, tm.getD 68 undef = r23, tm.getD 69 undef = r24, tm.getD 70 undef = r25, tm.getD 71 undef = r26 at htm
      clear h2
      subst htm
      replace HB := HB.trans (hBz.mono HB.size)
      clear hBz HS HM X3 X6 hFm hTu hRa hFr
      go_wp2
      go_ret
      exact ⟨rfl, HB⟩
end Go.Proofs.Ytbhhegmlfclhbaa

/- What the row of a law asks of the program as a whole, each by itself. -/
namespace Go.Proofs.Ytbhhegmlfclhbaa
open Go.ChangeShapes Go.WideShapes Go.ChangeAt Go.RowKit Go.Joins
theorem jn_laid : laidOutB Try.pinned.checked.prog = true := by kernel_rfl
theorem jn_maps : mapsRowed Try.pinned.checked.prog = true := by kernel_rfl
theorem jn_enter : Try.pinned.checked.prog.mayEnter = true := by kernel_rfl
theorem jn_heard : Try.pinned.checked.prog.stopsHeard = true := by kernel_rfl
end Go.Proofs.Ytbhhegmlfclhbaa
