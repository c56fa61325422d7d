/- Part 6 of the walks that the proof leans on. -/
import Derived.Test.YtnnojeggjnddpaaPart4
import Derived.Test.YtnnojeggjnddpaaPart5
import Derived.Test.YtnnojeggjnddpaaRows
import Derived.ProofKit
import Derived.Lib.SmallJoins
/- Numbers come back from their texts: the law over drawn ones. -/
namespace Go.Proofs.Ytnnojeggjnddpaa
open Go.RowKit
theorem bigt_any (ao : Option Addr) (n cap : Nat) (w : World) (z : Bool) (hz : decide (1048576 < n) = z) : Calls Try.prog 30 #[.slice ao n cap] w (BoolP z w) := by
  subst hz
  go_enter Try.func30, Try.ntmps30
  go_wp2
  go_ret
  exact ⟨by simp; try omega, Below.refl _ _⟩
theorem bits_ex (v : Nat) : ∃ b : Nat, BitsOf (v : Int) b ∧ (0 < v → BitsOf ((2 * v : Nat) : Int) (b + 1)) ∧ (v < 2 ^ 256 → b ≤ 256) := by
  rcases Nat.eq_zero_or_pos v with rfl | hv
  · exact ⟨0, ⟨by omega, by decide, .inl rfl⟩, fun h => by omega, fun _ => by omega⟩
  · have h1 := Nat.log2_self_le (n := v) (by omega)
    have h2 := Nat.lt_log2_self (n := v)
    refine ⟨v.log2 + 1, ⟨by omega, by rw [ipow2]; omega, .inr ?_⟩, fun _ => ⟨by omega, ?_, .inr ?_⟩, fun h => ?_⟩
    · rw [ipow2, Nat.add_sub_cancel]; omega
    · rw [ipow2, Nat.pow_succ]; omega
    · rw [ipow2, Nat.add_sub_cancel, Nat.pow_succ]; omega
    · have h3 : 2 ^ v.log2 < 2 ^ 256 := Nat.lt_of_le_of_lt h1 h
      have := (Nat.pow_lt_pow_iff_right (a := 2) (by omega)).1 h3
      omega
theorem bitsV {x : Int} (hx : told x = true) {b : Nat} (hb : BitsOf (x.natAbs : Int) b) (w : World) : Calls Try.prog 35 #[.agg #[.int .u64 (ww3 x), .int .u64 (ww2 x), .int .u64 (ww1 x), .int .u64 (ww0 x)]] w (VP (.int .i64 (b : Int)) w) := by
  refine (bitsW_det x hx w).mono ?_
  rintro e w1 ⟨c, rfl, hc, hB⟩
  rw [bits_unique hc hb]
  exact ⟨rfl, hB⟩
def VwtN  (_B : Nat) : Nat → Value → World → Prop
  | 0, v, _ => v = .bool false
  | 1, v, _ => v = .bool true
  | 2, v, _ => v = .bool true
  | 3, v, _ => v = undef
  | 4, v, _ => v = undef
  | 5, v, _ => v = undef
  | 6, v, _ => v = .bool true
  | 7, v, _ => v = .bool true
  | 8, v, _ => v = undef
  | 9, v, _ => v = undef
  | 10, v, _ => v = undef
  | 11, v, _ => v = undef
  | 12, v, _ => v = undef
  | 13, v, _ => v = undef
  | 14, v, _ => v = .bool true
  | 15, v, _ => v = .bool true
  | _, _, _ => True
theorem VwtN.mono  {B j : Nat} {v : Value} {W W2 : World} (_hB : Below W.heap.size W W2) (h : VwtN  B j v W) : VwtN  B j v W2 := by
  unfold VwtN at *
  split <;> simp only at h <;> first | exact h | trivial
set_option maxRecDepth 100000 in
set_option maxHeartbeats 4000000 in
theorem wtN {Q : Exit → Act → World → Prop}  {A3 A10 : Nat} {w0 : World} {a0 : Act} {idq : Nat} {t0 t1 t2 t3 t4 t5 t6 t7 t8 t9 t10 t11 t12 t13 t14 t15 : TypeId} {q0 q1 q2 q3 q4 q5 q6 q7 q8 q9 q10 q11 q12 q13 q14 q15 : String}
     (h11 : a0.tmps[11]? = some (.bool false)) (h3 : a0.tmps[3]? = some (.pointer (some ⟨A3, 0, none⟩))) (h10 : a0.tmps[10]? = some (.pointer (some ⟨A10, 0, none⟩)))  (hz : a0.tmps.size = 71)
    (hQ : ∀ aq W, aq.tmps.size = a0.tmps.size → aq.defers = a0.defers → (∀ e, e ∉ ([56, 57, 58, 59, 60, 61, 62, 63, 64, 65, 66, 67, 68, 69, 70, 2] : List Nat) → aq.tmps[e]? = a0.tmps[e]?) → VwtN  w0.heap.size 15 (aq.tmps.getD 2 undef) W → Below w0.heap.size w0 W → Q .normal aq W) :
    (Code.region idq #[{ dst := some 56, op := Op.move (Operand.tmp 11), type := t0, pos := q0, after := #[], guard := none },
    { dst := some 57, op := Op.unOp UnOp.not 4 (Operand.tmp 56), type := t1, pos := q1, after := #[{ on := 0, ground := Ground.data }], guard := none },
    { dst := some 58, op := Op.move (Operand.tmp 57), type := t2, pos := q2, after := #[{ on := 1, ground := Ground.data }], guard := none },
    { dst := some 59, op := Op.load 26 (Operand.tmp 3), type := t3, pos := q3, after := #[{ on := 2, ground := Ground.guard }], guard := some (2, false) },
    { dst := some 60, op := Op.call { callee := Callee.value (Operand.func 34), args := #[Operand.tmp 59], argTypes := #[26] }, type := t4, pos := q4, after := #[{ on := 3, ground := Ground.data }, { on := 2, ground := Ground.chain }, { on := 2, ground := Ground.guard }], guard := some (2, false) },
    { dst := some 61, op := Op.binOp BinOp.eql 2 (Operand.tmp 60) (Operand.const (Value.int IntKind.i64 0)) 2, type := t5, pos := q5, after := #[{ on := 4, ground := Ground.data }, { on := 2, ground := Ground.guard }], guard := some (2, false) },
    { dst := some 62, op := Op.pick (Operand.tmp 58) (Operand.const (Value.bool true)) (Operand.tmp 61), type := t6, pos := q6, after := #[{ on := 2, ground := Ground.data }, { on := 5, ground := Ground.data }], guard := none },
    { dst := some 63, op := Op.move (Operand.tmp 62), type := t7, pos := q7, after := #[{ on := 6, ground := Ground.data }, { on := 4, ground := Ground.chain }], guard := none },
    { dst := some 64, op := Op.load 26 (Operand.tmp 10), type := t8, pos := q8, after := #[{ on := 7, ground := Ground.guard }], guard := some (7, false) },
    { dst := some 65, op := Op.call { callee := Callee.value (Operand.func 35), args := #[Operand.tmp 64], argTypes := #[26] }, type := t9, pos := q9, after := #[{ on := 8, ground := Ground.data }, { on := 7, ground := Ground.chain }, { on := 7, ground := Ground.guard }], guard := some (7, false) },
    { dst := some 66, op := Op.load 26 (Operand.tmp 3), type := t10, pos := q10, after := #[{ on := 7, ground := Ground.guard }], guard := some (7, false) },
    { dst := some 67, op := Op.call { callee := Callee.value (Operand.func 35), args := #[Operand.tmp 66], argTypes := #[26] }, type := t11, pos := q11, after := #[{ on := 10, ground := Ground.data }, { on := 9, ground := Ground.chain }, { on := 7, ground := Ground.guard }], guard := some (7, false) },
    { dst := some 68, op := Op.binOp BinOp.add 2 (Operand.tmp 67) (Operand.const (Value.int IntKind.i64 1)) 2, type := t12, pos := q12, after := #[{ on := 11, ground := Ground.data }, { on := 7, ground := Ground.guard }], guard := some (7, false) },
    { dst := some 69, op := Op.binOp BinOp.eql 2 (Operand.tmp 65) (Operand.tmp 68) 2, type := t13, pos := q13, after := #[{ on := 9, ground := Ground.data }, { on := 12, ground := Ground.data }, { on := 7, ground := Ground.guard }], guard := some (7, false) },
    { dst := some 70, op := Op.pick (Operand.tmp 63) (Operand.const (Value.bool true)) (Operand.tmp 69), type := t14, pos := q14, after := #[{ on := 7, ground := Ground.data }, { on := 13, ground := Ground.data }], guard := none },
    { dst := some 2, op := Op.assign (Operand.tmp 70), type := t15, pos := q15, after := #[{ on := 14, ground := Ground.data }, { on := 11, ground := Ground.chain }, { on := 0, ground := Ground.phase }, { on := 1, ground := Ground.phase }, { on := 2, ground := Ground.phase }, { on := 3, ground := Ground.phase }, { on := 4, ground := Ground.phase }, { on := 5, ground := Ground.phase }, { on := 6, ground := Ground.phase }, { on := 7, ground := Ground.phase }, { on := 8, ground := Ground.phase }, { on := 9, ground := Ground.phase }, { on := 10, ground := Ground.phase }, { on := 11, ground := Ground.phase }, { on := 12, ground := Ground.phase }, { on := 13, ground := Ground.phase }, { on := 14, ground := Ground.phase }], guard := none }] true).wp Try.prog Q a0 w0 := by
  have hS : distS [some 56, some 57, some 58, some 59, some 60, some 61, some 62, some 63, some 64, some 65, some 66, some 67, some 68, some 69, some 70, some 2] = true := rfl
  refine wp_region_q (by kernel_rfl) w0.heap.size [some 56, some 57, some 58, some 59, some 60, some 61, some 62, some 63, some 64, some 65, some 66, some 67, some 68, some 69, some 70, some 2] (VwtN  w0.heap.size) rfl ?_ ?_
  · intro Q lq aq W iq oq hJ hl ho hall
    have hJ2 := hJ
    obtain ⟨z1, z2, z3, z4, z5, z6, z7⟩ := hJ
    have g11 : aq.tmps.getD 11 undef = .bool false := by rw [Array.getD_eq_getD_getElem?, z4 11 (by decide), h11]; rfl
    have g3 : aq.tmps.getD 3 undef = .pointer (some ⟨A3, 0, none⟩) := by rw [Array.getD_eq_getD_getElem?, z4 3 (by decide), h3]; rfl
    have g10 : aq.tmps.getD 10 undef = .pointer (some ⟨A10, 0, none⟩) := by rw [Array.getD_eq_getD_getElem?, z4 10 (by decide), h10]; rfl
    match iq, ho with
    | 0, ho =>
      cases ho
      refine wpOp_of rfl rfl ?_
      have hK := fun (v : Value) (W2 : World) hW hT hv => hJ2.put hS 0 56 rfl (by omega) (W' := W2) hW hT v hv
      clear ho hall hl hQ
      generalize InvQ w0.heap.size [some 56, some 57, some 58, some 59, some 60, some 61, some 62, some 63, some 64, some 65, some 66, some 67, some 68, some 69, some 70, some 2] (VwtN  w0.heap.size) w0 a0 (lq.setIfInBounds 0 true) = K at hK ⊢
      clear hJ2 hS z1 z2 z3 z4 z6 z7
      go_simp
      exact hK _ _ z5 (fun _ _ h => h) rfl
    | 1, ho =>
      cases ho
      refine wpOp_of rfl rfl ?_
      have f0 : (aq.tmps.getD 56 undef) = .bool false := z6 0 56 (hall { on := 0, ground := Ground.data } (by simp) rfl) rfl
      have hK := fun (v : Value) (W2 : World) hW hT hv => hJ2.put hS 1 57 rfl (by omega) (W' := W2) hW hT v hv
      clear ho hall hl hQ
      generalize InvQ w0.heap.size [some 56, some 57, some 58, some 59, some 60, some 61, some 62, some 63, some 64, some 65, some 66, some 67, some 68, some 69, some 70, some 2] (VwtN  w0.heap.size) w0 a0 (lq.setIfInBounds 1 true) = K at hK ⊢
      clear hJ2 hS z1 z2 z3 z4 z6 z7
      go_simp
      exact hK _ _ z5 (fun _ _ h => h) rfl
    | 2, ho =>
      cases ho
      refine wpOp_of rfl rfl ?_
      have f1 : (aq.tmps.getD 57 undef) = .bool true := z6 1 57 (hall { on := 1, ground := Ground.data } (by simp) rfl) rfl
      have hK := fun (v : Value) (W2 : World) hW hT hv => hJ2.put hS 2 58 rfl (by omega) (W' := W2) hW hT v hv
      clear ho hall hl hQ
      generalize InvQ w0.heap.size [some 56, some 57, some 58, some 59, some 60, some 61, some 62, some 63, some 64, some 65, some 66, some 67, some 68, some 69, some 70, some 2] (VwtN  w0.heap.size) w0 a0 (lq.setIfInBounds 2 true) = K at hK ⊢
      clear hJ2 hS z1 z2 z3 z4 z6 z7
      go_simp
      exact hK _ _ z5 (fun _ _ h => h) rfl
    | 3, ho =>
      cases ho
      have fg : aq.tmps.getD 58 undef = .bool true := z6 2 58 (hall { on := 2, ground := Ground.guard } (by simp) rfl) rfl
      refine wpOp_off rfl rfl rfl rfl fg ?_
      exact hJ2.put hS 3 59 rfl (by omega) z5 (fun _ _ h => h) undef rfl
    | 4, ho =>
      cases ho
      have fg : aq.tmps.getD 58 undef = .bool true := z6 2 58 (hall { on := 2, ground := Ground.guard } (by simp) rfl) rfl
      refine wpOp_off rfl rfl rfl rfl fg ?_
      exact hJ2.put hS 4 60 rfl (by omega) z5 (fun _ _ h => h) undef rfl
    | 5, ho =>
      cases ho
      have fg : aq.tmps.getD 58 undef = .bool true := z6 2 58 (hall { on := 2, ground := Ground.guard } (by simp) rfl) rfl
      refine wpOp_off rfl rfl rfl rfl fg ?_
      exact hJ2.put hS 5 61 rfl (by omega) z5 (fun _ _ h => h) undef rfl
    | 6, ho =>
      cases ho
      refine wpOp_of rfl rfl ?_
      have f2 : (aq.tmps.getD 58 undef) = .bool true := z6 2 58 (hall { on := 2, ground := Ground.data } (by simp) rfl) rfl
      have f5 : (aq.tmps.getD 61 undef) = undef := z6 5 61 (hall { on := 5, ground := Ground.data } (by simp) rfl) rfl
      have hK := fun (v : Value) (W2 : World) hW hT hv => hJ2.put hS 6 62 rfl (by omega) (W' := W2) hW hT v hv
      clear ho hall hl hQ
      generalize InvQ w0.heap.size [some 56, some 57, some 58, some 59, some 60, some 61, some 62, some 63, some 64, some 65, some 66, some 67, some 68, some 69, some 70, some 2] (VwtN  w0.heap.size) w0 a0 (lq.setIfInBounds 6 true) = K at hK ⊢
      clear hJ2 hS z1 z2 z3 z4 z6 z7
      go_simp
      exact hK _ _ z5 (fun _ _ h => h) rfl
    | 7, ho =>
      cases ho
      refine wpOp_of rfl rfl ?_
      have f6 : (aq.tmps.getD 62 undef) = .bool true := z6 6 62 (hall { on := 6, ground := Ground.data } (by simp) rfl) rfl
      have hK := fun (v : Value) (W2 : World) hW hT hv => hJ2.put hS 7 63 rfl (by omega) (W' := W2) hW hT v hv
      clear ho hall hl hQ
      generalize InvQ w0.heap.size [some 56, some 57, some 58, some 59, some 60, some 61, some 62, some 63, some 64, some 65, some 66, some 67, some 68, some 69, some 70, some 2] (VwtN  w0.heap.size) w0 a0 (lq.setIfInBounds 7 true) = K at hK ⊢
      clear hJ2 hS z1 z2 z3 z4 z6 z7
      go_simp
      exact hK _ _ z5 (fun _ _ h => h) rfl
    | 8, ho =>
      cases ho
      have fg : aq.tmps.getD 63 undef = .bool true := z6 7 63 (hall { on := 7, ground := Ground.guard } (by simp) rfl) rfl
      refine wpOp_off rfl rfl rfl rfl fg ?_
      exact hJ2.put hS 8 64 rfl (by omega) z5 (fun _ _ h => h) undef rfl
    | 9, ho =>
      cases ho
      have fg : aq.tmps.getD 63 undef = .bool true := z6 7 63 (hall { on := 7, ground := Ground.guard } (by simp) rfl) rfl
      refine wpOp_off rfl rfl rfl rfl fg ?_
      exact hJ2.put hS 9 65 rfl (by omega) z5 (fun _ _ h => h) undef rfl
    | 10, ho =>
      cases ho
      have fg : aq.tmps.getD 63 undef = .bool true := z6 7 63 (hall { on := 7, ground := Ground.guard } (by simp) rfl) rfl
      refine wpOp_off rfl rfl rfl rfl fg ?_
      exact hJ2.put hS 10 66 rfl (by omega) z5 (fun _ _ h => h) undef rfl
    | 11, ho =>
      cases ho
      have fg : aq.tmps.getD 63 undef = .bool true := z6 7 63 (hall { on := 7, ground := Ground.guard } (by simp) rfl) rfl
      refine wpOp_off rfl rfl rfl rfl fg ?_
      exact hJ2.put hS 11 67 rfl (by omega) z5 (fun _ _ h => h) undef rfl
    | 12, ho =>
      cases ho
      have fg : aq.tmps.getD 63 undef = .bool true := z6 7 63 (hall { on := 7, ground := Ground.guard } (by simp) rfl) rfl
      refine wpOp_off rfl rfl rfl rfl fg ?_
      exact hJ2.put hS 12 68 rfl (by omega) z5 (fun _ _ h => h) undef rfl
    | 13, ho =>
      cases ho
      have fg : aq.tmps.getD 63 undef = .bool true := z6 7 63 (hall { on := 7, ground := Ground.guard } (by simp) rfl) rfl
      refine wpOp_off rfl rfl rfl rfl fg ?_
      exact hJ2.put hS 13 69 rfl (by omega) z5 (fun _ _ h => h) undef rfl
    | 14, ho =>
      cases ho
      refine wpOp_of rfl rfl ?_
      have f7 : (aq.tmps.getD 63 undef) = .bool true := z6 7 63 (hall { on := 7, ground := Ground.data } (by simp) rfl) rfl
      have f13 : (aq.tmps.getD 69 undef) = undef := z6 13 69 (hall { on := 13, ground := Ground.data } (by simp) rfl) rfl
      have hK := fun (v : Value) (W2 : World) hW hT hv => hJ2.put hS 14 70 rfl (by omega) (W' := W2) hW hT v hv
      clear ho hall hl hQ
      generalize InvQ w0.heap.size [some 56, some 57, some 58, some 59, some 60, some 61, some 62, some 63, some 64, some 65, some 66, some 67, some 68, some 69, some 70, some 2] (VwtN  w0.heap.size) w0 a0 (lq.setIfInBounds 14 true) = K at hK ⊢
      clear hJ2 hS z1 z2 z3 z4 z6 z7
      go_simp
      exact hK _ _ z5 (fun _ _ h => h) rfl
    | 15, ho =>
      cases ho
      refine wpOp_of rfl rfl ?_
      have f14 : (aq.tmps.getD 70 undef) = .bool true := z6 14 70 (hall { on := 14, ground := Ground.data } (by simp) rfl) rfl
      have hK := fun (v : Value) (W2 : World) hW hT hv => hJ2.put hS 15 2 rfl (by omega) (W' := W2) hW hT v hv
      clear ho hall hl hQ
      generalize InvQ w0.heap.size [some 56, some 57, some 58, some 59, some 60, some 61, some 62, some 63, some 64, some 65, some 66, some 67, some 68, some 69, some 70, some 2] (VwtN  w0.heap.size) w0 a0 (lq.setIfInBounds 15 true) = K at hK ⊢
      clear hJ2 hS z1 z2 z3 z4 z6 z7
      go_simp
      exact hK _ _ z5 (fun _ _ h => h) rfl
    | iq + 16, ho => simp at ho
  · intro lq aq W hJ hr
    obtain ⟨z1, z2, z3, z4, z5, z6, z7⟩ := hJ
    have hl := listed_of hr [0, 1, 2, 3, 4, 5, 6, 7, 8, 9, 10, 11, 12, 13, 14, 15] [] (by simp) (by kernel_rfl) (by rw [z1]; decide)
    exact hQ aq W z2 z3 (fun e he => z4 e (by simpa using he)) (z6 15 2 (hl 15 (by simp)) rfl) z5
def VwtZ (x : Int) (_B : Nat) : Nat → Value → World → Prop
  | 0, v, _ => v = .bool true
  | 1, v, _ => v = .bool false
  | 2, v, _ => v = .bool false
  | 3, v, _ => v = .agg #[.int .u64 (ww3 x), .int .u64 (ww2 x), .int .u64 (ww1 x), .int .u64 (ww0 x)]
  | 4, v, _ => v = .int .i64 0
  | 5, v, _ => v = .bool true
  | 6, v, _ => v = .bool true
  | 7, v, _ => v = .bool true
  | 8, v, _ => v = undef
  | 9, v, _ => v = undef
  | 10, v, _ => v = undef
  | 11, v, _ => v = undef
  | 12, v, _ => v = undef
  | 13, v, _ => v = undef
  | 14, v, _ => v = .bool true
  | 15, v, _ => v = .bool true
  | _, _, _ => True
theorem VwtZ.mono {x : Int} {B j : Nat} {v : Value} {W W2 : World} (_hB : Below W.heap.size W W2) (h : VwtZ x B j v W) : VwtZ x B j v W2 := by
  unfold VwtZ at *
  split <;> simp only at h <;> first | exact h | trivial
set_option maxRecDepth 100000 in
set_option maxHeartbeats 4000000 in
theorem wtZ {Q : Exit → Act → World → Prop} {x : Int} {A3 A10 : Nat} {w0 : World} {a0 : Act} {idq : Nat} {t0 t1 t2 t3 t4 t5 t6 t7 t8 t9 t10 t11 t12 t13 t14 t15 : TypeId} {q0 q1 q2 q3 q4 q5 q6 q7 q8 q9 q10 q11 q12 q13 q14 q15 : String}
    (hS : ∀ w, Calls Try.prog 34 #[.agg #[.int .u64 (ww3 x), .int .u64 (ww2 x), .int .u64 (ww1 x), .int .u64 (ww0 x)]] w (VP (.int .i64 0) w)) (h11 : a0.tmps[11]? = some (.bool true)) (h3 : a0.tmps[3]? = some (.pointer (some ⟨A3, 0, none⟩))) (h10 : a0.tmps[10]? = some (.pointer (some ⟨A10, 0, none⟩))) (k0 : w0.cell? ⟨A3, 0, none⟩ = some (.int .u64 (ww3 x))) (l0 : (⟨A3, 0, none⟩ : Addr).block < w0.heap.size) (k1 : w0.cell? ⟨A3, 1, none⟩ = some (.int .u64 (ww2 x))) (l1 : (⟨A3, 1, none⟩ : Addr).block < w0.heap.size) (k2 : w0.cell? ⟨A3, 2, none⟩ = some (.int .u64 (ww1 x))) (l2 : (⟨A3, 2, none⟩ : Addr).block < w0.heap.size) (k3 : w0.cell? ⟨A3, 3, none⟩ = some (.int .u64 (ww0 x))) (l3 : (⟨A3, 3, none⟩ : Addr).block < w0.heap.size) (hz : a0.tmps.size = 71)
    (hQ : ∀ aq W, aq.tmps.size = a0.tmps.size → aq.defers = a0.defers → (∀ e, e ∉ ([56, 57, 58, 59, 60, 61, 62, 63, 64, 65, 66, 67, 68, 69, 70, 2] : List Nat) → aq.tmps[e]? = a0.tmps[e]?) → VwtZ x w0.heap.size 15 (aq.tmps.getD 2 undef) W → Below w0.heap.size w0 W → Q .normal aq W) :
    (Code.region idq #[{ dst := some 56, op := Op.move (Operand.tmp 11), type := t0, pos := q0, after := #[], guard := none },
    { dst := some 57, op := Op.unOp UnOp.not 4 (Operand.tmp 56), type := t1, pos := q1, after := #[{ on := 0, ground := Ground.data }], guard := none },
    { dst := some 58, op := Op.move (Operand.tmp 57), type := t2, pos := q2, after := #[{ on := 1, ground := Ground.data }], guard := none },
    { dst := some 59, op := Op.load 26 (Operand.tmp 3), type := t3, pos := q3, after := #[{ on := 2, ground := Ground.guard }], guard := some (2, false) },
    { dst := some 60, op := Op.call { callee := Callee.value (Operand.func 34), args := #[Operand.tmp 59], argTypes := #[26] }, type := t4, pos := q4, after := #[{ on := 3, ground := Ground.data }, { on := 2, ground := Ground.chain }, { on := 2, ground := Ground.guard }], guard := some (2, false) },
    { dst := some 61, op := Op.binOp BinOp.eql 2 (Operand.tmp 60) (Operand.const (Value.int IntKind.i64 0)) 2, type := t5, pos := q5, after := #[{ on := 4, ground := Ground.data }, { on := 2, ground := Ground.guard }], guard := some (2, false) },
    { dst := some 62, op := Op.pick (Operand.tmp 58) (Operand.const (Value.bool true)) (Operand.tmp 61), type := t6, pos := q6, after := #[{ on := 2, ground := Ground.data }, { on := 5, ground := Ground.data }], guard := none },
    { dst := some 63, op := Op.move (Operand.tmp 62), type := t7, pos := q7, after := #[{ on := 6, ground := Ground.data }, { on := 4, ground := Ground.chain }], guard := none },
    { dst := some 64, op := Op.load 26 (Operand.tmp 10), type := t8, pos := q8, after := #[{ on := 7, ground := Ground.guard }], guard := some (7, false) },
    { dst := some 65, op := Op.call { callee := Callee.value (Operand.func 35), args := #[Operand.tmp 64], argTypes := #[26] }, type := t9, pos := q9, after := #[{ on := 8, ground := Ground.data }, { on := 7, ground := Ground.chain }, { on := 7, ground := Ground.guard }], guard := some (7, false) },
    { dst := some 66, op := Op.load 26 (Operand.tmp 3), type := t10, pos := q10, after := #[{ on := 7, ground := Ground.guard }], guard := some (7, false) },
    { dst := some 67, op := Op.call { callee := Callee.value (Operand.func 35), args := #[Operand.tmp 66], argTypes := #[26] }, type := t11, pos := q11, after := #[{ on := 10, ground := Ground.data }, { on := 9, ground := Ground.chain }, { on := 7, ground := Ground.guard }], guard := some (7, false) },
    { dst := some 68, op := Op.binOp BinOp.add 2 (Operand.tmp 67) (Operand.const (Value.int IntKind.i64 1)) 2, type := t12, pos := q12, after := #[{ on := 11, ground := Ground.data }, { on := 7, ground := Ground.guard }], guard := some (7, false) },
    { dst := some 69, op := Op.binOp BinOp.eql 2 (Operand.tmp 65) (Operand.tmp 68) 2, type := t13, pos := q13, after := #[{ on := 9, ground := Ground.data }, { on := 12, ground := Ground.data }, { on := 7, ground := Ground.guard }], guard := some (7, false) },
    { dst := some 70, op := Op.pick (Operand.tmp 63) (Operand.const (Value.bool true)) (Operand.tmp 69), type := t14, pos := q14, after := #[{ on := 7, ground := Ground.data }, { on := 13, ground := Ground.data }], guard := none },
    { dst := some 2, op := Op.assign (Operand.tmp 70), type := t15, pos := q15, after := #[{ on := 14, ground := Ground.data }, { on := 11, ground := Ground.chain }, { on := 0, ground := Ground.phase }, { on := 1, ground := Ground.phase }, { on := 2, ground := Ground.phase }, { on := 3, ground := Ground.phase }, { on := 4, ground := Ground.phase }, { on := 5, ground := Ground.phase }, { on := 6, ground := Ground.phase }, { on := 7, ground := Ground.phase }, { on := 8, ground := Ground.phase }, { on := 9, ground := Ground.phase }, { on := 10, ground := Ground.phase }, { on := 11, ground := Ground.phase }, { on := 12, ground := Ground.phase }, { on := 13, ground := Ground.phase }, { on := 14, ground := Ground.phase }], guard := none }] true).wp Try.prog Q a0 w0 := by
  have hS : distS [some 56, some 57, some 58, some 59, some 60, some 61, some 62, some 63, some 64, some 65, some 66, some 67, some 68, some 69, some 70, some 2] = true := rfl
  refine wp_region_q (by kernel_rfl) w0.heap.size [some 56, some 57, some 58, some 59, some 60, some 61, some 62, some 63, some 64, some 65, some 66, some 67, some 68, some 69, some 70, some 2] (VwtZ x w0.heap.size) rfl ?_ ?_
  · intro Q lq aq W iq oq hJ hl ho hall
    have hJ2 := hJ
    obtain ⟨z1, z2, z3, z4, z5, z6, z7⟩ := hJ
    have g11 : aq.tmps.getD 11 undef = .bool true := by rw [Array.getD_eq_getD_getElem?, z4 11 (by decide), h11]; rfl
    have g3 : aq.tmps.getD 3 undef = .pointer (some ⟨A3, 0, none⟩) := by rw [Array.getD_eq_getD_getElem?, z4 3 (by decide), h3]; rfl
    have g10 : aq.tmps.getD 10 undef = .pointer (some ⟨A10, 0, none⟩) := by rw [Array.getD_eq_getD_getElem?, z4 10 (by decide), h10]; rfl
    have c0 : W.cell? ⟨A3, 0, none⟩ = some (.int .u64 (ww3 x)) := (z5.cell l0).trans k0
    have c1 : W.cell? ⟨A3, 1, none⟩ = some (.int .u64 (ww2 x)) := (z5.cell l1).trans k1
    have c2 : W.cell? ⟨A3, 2, none⟩ = some (.int .u64 (ww1 x)) := (z5.cell l2).trans k2
    have c3 : W.cell? ⟨A3, 3, none⟩ = some (.int .u64 (ww0 x)) := (z5.cell l3).trans k3
    match iq, ho with
    | 0, ho =>
      cases ho
      refine wpOp_of rfl rfl ?_
      have hK := fun (v : Value) (W2 : World) hW hT hv => hJ2.put hS 0 56 rfl (by omega) (W' := W2) hW hT v hv
      clear ho hall hl hQ
      generalize InvQ w0.heap.size [some 56, some 57, some 58, some 59, some 60, some 61, some 62, some 63, some 64, some 65, some 66, some 67, some 68, some 69, some 70, some 2] (VwtZ x w0.heap.size) w0 a0 (lq.setIfInBounds 0 true) = K at hK ⊢
      clear hJ2 hS z1 z2 z3 z4 z6 z7
      go_simp
      exact hK _ _ z5 (fun _ _ h => h) rfl
    | 1, ho =>
      cases ho
      refine wpOp_of rfl rfl ?_
      have f0 : (aq.tmps.getD 56 undef) = .bool true := z6 0 56 (hall { on := 0, ground := Ground.data } (by simp) rfl) rfl
      have hK := fun (v : Value) (W2 : World) hW hT hv => hJ2.put hS 1 57 rfl (by omega) (W' := W2) hW hT v hv
      clear ho hall hl hQ
      generalize InvQ w0.heap.size [some 56, some 57, some 58, some 59, some 60, some 61, some 62, some 63, some 64, some 65, some 66, some 67, some 68, some 69, some 70, some 2] (VwtZ x w0.heap.size) w0 a0 (lq.setIfInBounds 1 true) = K at hK ⊢
      clear hJ2 hS z1 z2 z3 z4 z6 z7
      go_simp
      exact hK _ _ z5 (fun _ _ h => h) rfl
    | 2, ho =>
      cases ho
      refine wpOp_of rfl rfl ?_
      have f1 : (aq.tmps.getD 57 undef) = .bool false := z6 1 57 (hall { on := 1, ground := Ground.data } (by simp) rfl) rfl
      have hK := fun (v : Value) (W2 : World) hW hT hv => hJ2.put hS 2 58 rfl (by omega) (W' := W2) hW hT v hv
      clear ho hall hl hQ
      generalize InvQ w0.heap.size [some 56, some 57, some 58, some 59, some 60, some 61, some 62, some 63, some 64, some 65, some 66, some 67, some 68, some 69, some 70, some 2] (VwtZ x w0.heap.size) w0 a0 (lq.setIfInBounds 2 true) = K at hK ⊢
      clear hJ2 hS z1 z2 z3 z4 z6 z7
      go_simp
      exact hK _ _ z5 (fun _ _ h => h) rfl
    | 3, ho =>
      cases ho
      have fg : aq.tmps.getD 58 undef = .bool false := z6 2 58 (hall { on := 2, ground := Ground.guard } (by simp) rfl) rfl
      refine wpOp_on rfl rfl rfl rfl fg ?_
      have hK := fun (v : Value) (W2 : World) hW hT hv => hJ2.put hS 3 59 rfl (by omega) (W' := W2) hW hT v hv
      clear ho hall hl hQ
      generalize InvQ w0.heap.size [some 56, some 57, some 58, some 59, some 60, some 61, some 62, some 63, some 64, some 65, some 66, some 67, some 68, some 69, some 70, some 2] (VwtZ x w0.heap.size) w0 a0 (lq.setIfInBounds 3 true) = K at hK ⊢
      clear hJ2 hS z1 z2 z3 z4 z6 z7
      go_simp
      exact hK _ _ z5 (fun _ _ h => h) rfl
    | 4, ho =>
      cases ho
      have fg : aq.tmps.getD 58 undef = .bool false := z6 2 58 (hall { on := 2, ground := Ground.guard } (by simp) rfl) rfl
      refine wpOp_on rfl rfl rfl rfl fg ?_
      have f3 : (aq.tmps.getD 59 undef) = .agg #[.int .u64 (ww3 x), .int .u64 (ww2 x), .int .u64 (ww1 x), .int .u64 (ww0 x)] := z6 3 59 (hall { on := 3, ground := Ground.data } (by simp) rfl) rfl
      have hK := fun (v : Value) (W2 : World) hW hT hv => hJ2.put hS 4 60 rfl (by omega) (W' := W2) hW hT v hv
      clear ho hall hl hQ
      generalize InvQ w0.heap.size [some 56, some 57, some 58, some 59, some 60, some 61, some 62, some 63, some 64, some 65, some 66, some 67, some 68, some 69, some 70, some 2] (VwtZ x w0.heap.size) w0 a0 (lq.setIfInBounds 4 true) = K at hK ⊢
      clear hJ2 hS z1 z2 z3 z4 z6 z7
      go_simp
      refine (hS W).mono ?_
      rintro e v1 ⟨rfl, hBv⟩
      exact hK _ _ (z5.trans (hBv.mono z5.size)) (fun _ _ h => h.mono hBv) rfl
    | 5, ho =>
      cases ho
      have fg : aq.tmps.getD 58 undef = .bool false := z6 2 58 (hall { on := 2, ground := Ground.guard } (by simp) rfl) rfl
      refine wpOp_on rfl rfl rfl rfl fg ?_
      have f4 : (aq.tmps.getD 60 undef) = .int .i64 0 := z6 4 60 (hall { on := 4, ground := Ground.data } (by simp) rfl) rfl
      have hK := fun (v : Value) (W2 : World) hW hT hv => hJ2.put hS 5 61 rfl (by omega) (W' := W2) hW hT v hv
      clear ho hall hl hQ
      generalize InvQ w0.heap.size [some 56, some 57, some 58, some 59, some 60, some 61, some 62, some 63, some 64, some 65, some 66, some 67, some 68, some 69, some 70, some 2] (VwtZ x w0.heap.size) w0 a0 (lq.setIfInBounds 5 true) = K at hK ⊢
      clear hJ2 hS z1 z2 z3 z4 z6 z7
      go_simp
      exact hK _ _ z5 (fun _ _ h => h) rfl
    | 6, ho =>
      cases ho
      refine wpOp_of rfl rfl ?_
      have f2 : (aq.tmps.getD 58 undef) = .bool false := z6 2 58 (hall { on := 2, ground := Ground.data } (by simp) rfl) rfl
      have f5 : (aq.tmps.getD 61 undef) = .bool true := z6 5 61 (hall { on := 5, ground := Ground.data } (by simp) rfl) rfl
      have hK := fun (v : Value) (W2 : World) hW hT hv => hJ2.put hS 6 62 rfl (by omega) (W' := W2) hW hT v hv
      clear ho hall hl hQ
      generalize InvQ w0.heap.size [some 56, some 57, some 58, some 59, some 60, some 61, some 62, some 63, some 64, some 65, some 66, some 67, some 68, some 69, some 70, some 2] (VwtZ x w0.heap.size) w0 a0 (lq.setIfInBounds 6 true) = K at hK ⊢
      clear hJ2 hS z1 z2 z3 z4 z6 z7
      go_simp
      exact hK _ _ z5 (fun _ _ h => h) rfl
    | 7, ho =>
      cases ho
      refine wpOp_of rfl rfl ?_
      have f6 : (aq.tmps.getD 62 undef) = .bool true := z6 6 62 (hall { on := 6, ground := Ground.data } (by simp) rfl) rfl
      have hK := fun (v : Value) (W2 : World) hW hT hv => hJ2.put hS 7 63 rfl (by omega) (W' := W2) hW hT v hv
      clear ho hall hl hQ
      generalize InvQ w0.heap.size [some 56, some 57, some 58, some 59, some 60, some 61, some 62, some 63, some 64, some 65, some 66, some 67, some 68, some 69, some 70, some 2] (VwtZ x w0.heap.size) w0 a0 (lq.setIfInBounds 7 true) = K at hK ⊢
      clear hJ2 hS z1 z2 z3 z4 z6 z7
      go_simp
      exact hK _ _ z5 (fun _ _ h => h) rfl
    | 8, ho =>
      cases ho
      have fg : aq.tmps.getD 63 undef = .bool true := z6 7 63 (hall { on := 7, ground := Ground.guard } (by simp) rfl) rfl
      refine wpOp_off rfl rfl rfl rfl fg ?_
      exact hJ2.put hS 8 64 rfl (by omega) z5 (fun _ _ h => h) undef rfl
    | 9, ho =>
      cases ho
      have fg : aq.tmps.getD 63 undef = .bool true := z6 7 63 (hall { on := 7, ground := Ground.guard } (by simp) rfl) rfl
      refine wpOp_off rfl rfl rfl rfl fg ?_
      exact hJ2.put hS 9 65 rfl (by omega) z5 (fun _ _ h => h) undef rfl
    | 10, ho =>
      cases ho
      have fg : aq.tmps.getD 63 undef = .bool true := z6 7 63 (hall { on := 7, ground := Ground.guard } (by simp) rfl) rfl
      refine wpOp_off rfl rfl rfl rfl fg ?_
      exact hJ2.put hS 10 66 rfl (by omega) z5 (fun _ _ h => h) undef rfl
    | 11, ho =>
      cases ho
      have fg : aq.tmps.getD 63 undef = .bool true := z6 7 63 (hall { on := 7, ground := Ground.guard } (by simp) rfl) rfl
      refine wpOp_off rfl rfl rfl rfl fg ?_
      exact hJ2.put hS 11 67 rfl (by omega) z5 (fun _ _ h => h) undef rfl
    | 12, ho =>
      cases ho
      have fg : aq.tmps.getD 63 undef = .bool true := z6 7 63 (hall { on := 7, ground := Ground.guard } (by simp) rfl) rfl
      refine wpOp_off rfl rfl rfl rfl fg ?_
      exact hJ2.put hS 12 68 rfl (by omega) z5 (fun _ _ h => h) undef rfl
    | 13, ho =>
      cases ho
      have fg : aq.tmps.getD 63 undef = .bool true := z6 7 63 (hall { on := 7, ground := Ground.guard } (by simp) rfl) rfl
      refine wpOp_off rfl rfl rfl rfl fg ?_
      exact hJ2.put hS 13 69 rfl (by omega) z5 (fun _ _ h => h) undef rfl
    | 14, ho =>
      cases ho
      refine wpOp_of rfl rfl ?_
      have f7 : (aq.tmps.getD 63 undef) = .bool true := z6 7 63 (hall { on := 7, ground := Ground.data } (by simp) rfl) rfl
      have f13 : (aq.tmps.getD 69 undef) = undef := z6 13 69 (hall { on := 13, ground := Ground.data } (by simp) rfl) rfl
      have hK := fun (v : Value) (W2 : World) hW hT hv => hJ2.put hS 14 70 rfl (by omega) (W' := W2) hW hT v hv
      clear ho hall hl hQ
      generalize InvQ w0.heap.size [some 56, some 57, some 58, some 59, some 60, some 61, some 62, some 63, some 64, some 65, some 66, some 67, some 68, some 69, some 70, some 2] (VwtZ x w0.heap.size) w0 a0 (lq.setIfInBounds 14 true) = K at hK ⊢
      clear hJ2 hS z1 z2 z3 z4 z6 z7
      go_simp
      exact hK _ _ z5 (fun _ _ h => h) rfl
    | 15, ho =>
      cases ho
      refine wpOp_of rfl rfl ?_
      have f14 : (aq.tmps.getD 70 undef) = .bool true := z6 14 70 (hall { on := 14, ground := Ground.data } (by simp) rfl) rfl
      have hK := fun (v : Value) (W2 : World) hW hT hv => hJ2.put hS 15 2 rfl (by omega) (W' := W2) hW hT v hv
      clear ho hall hl hQ
      generalize InvQ w0.heap.size [some 56, some 57, some 58, some 59, some 60, some 61, some 62, some 63, some 64, some 65, some 66, some 67, some 68, some 69, some 70, some 2] (VwtZ x w0.heap.size) w0 a0 (lq.setIfInBounds 15 true) = K at hK ⊢
      clear hJ2 hS z1 z2 z3 z4 z6 z7
      go_simp
      exact hK _ _ z5 (fun _ _ h => h) rfl
    | iq + 16, ho => simp at ho
  · intro lq aq W hJ hr
    obtain ⟨z1, z2, z3, z4, z5, z6, z7⟩ := hJ
    have hl := listed_of hr [0, 1, 2, 3, 4, 5, 6, 7, 8, 9, 10, 11, 12, 13, 14, 15] [] (by simp) (by kernel_rfl) (by rw [z1]; decide)
    exact hQ aq W z2 z3 (fun e he => z4 e (by simpa using he)) (z6 15 2 (hl 15 (by simp)) rfl) z5
def VwtA (x sg : Int) (q : Nat) (_B : Nat) : Nat → Value → World → Prop
  | 0, v, _ => v = .bool true
  | 1, v, _ => v = .bool false
  | 2, v, _ => v = .bool false
  | 3, v, _ => v = .agg #[.int .u64 (ww3 x), .int .u64 (ww2 x), .int .u64 (ww1 x), .int .u64 (ww0 x)]
  | 4, v, _ => v = .int .i64 sg
  | 5, v, _ => v = .bool false
  | 6, v, _ => v = .bool false
  | 7, v, _ => v = .bool false
  | 8, v, _ => v = .agg #[.int .u64 (ww3 (x + x)), .int .u64 (ww2 (x + x)), .int .u64 (ww1 (x + x)), .int .u64 (ww0 (x + x))]
  | 9, v, _ => v = .int .i64 ((q + 1 : Nat) : Int)
  | 10, v, _ => v = .agg #[.int .u64 (ww3 x), .int .u64 (ww2 x), .int .u64 (ww1 x), .int .u64 (ww0 x)]
  | 11, v, _ => v = .int .i64 (q : Int)
  | 12, v, _ => v = .int .i64 ((q + 1 : Nat) : Int)
  | 13, v, _ => v = .bool true
  | 14, v, _ => v = .bool true
  | 15, v, _ => v = .bool true
  | _, _, _ => True
theorem VwtA.mono {x sg : Int} {q : Nat} {B j : Nat} {v : Value} {W W2 : World} (_hB : Below W.heap.size W W2) (h : VwtA x sg q B j v W) : VwtA x sg q B j v W2 := by
  unfold VwtA at *
  split <;> simp only at h <;> first | exact h | trivial
set_option maxRecDepth 100000 in
set_option maxHeartbeats 4000000 in
theorem wtA {Q : Exit → Act → World → Prop} {x sg : Int} {q : Nat} {A3 A10 : Nat} {w0 : World} {a0 : Act} {idq : Nat} {t0 t1 t2 t3 t4 t5 t6 t7 t8 t9 t10 t11 t12 t13 t14 t15 : TypeId} {q0 q1 q2 q3 q4 q5 q6 q7 q8 q9 q10 q11 q12 q13 q14 q15 : String}
    (hS : ∀ w, Calls Try.prog 34 #[.agg #[.int .u64 (ww3 x), .int .u64 (ww2 x), .int .u64 (ww1 x), .int .u64 (ww0 x)]] w (VP (.int .i64 sg) w)) (hB1 : ∀ w, Calls Try.prog 35 #[.agg #[.int .u64 (ww3 (x + x)), .int .u64 (ww2 (x + x)), .int .u64 (ww1 (x + x)), .int .u64 (ww0 (x + x))]] w (VP (.int .i64 ((q + 1 : Nat) : Int)) w)) (hB2 : ∀ w, Calls Try.prog 35 #[.agg #[.int .u64 (ww3 x), .int .u64 (ww2 x), .int .u64 (ww1 x), .int .u64 (ww0 x)]] w (VP (.int .i64 (q : Int)) w)) (hsg : (sg == 0) = false) (hq : q ≤ 1000) (h11 : a0.tmps[11]? = some (.bool true)) (h3 : a0.tmps[3]? = some (.pointer (some ⟨A3, 0, none⟩))) (h10 : a0.tmps[10]? = some (.pointer (some ⟨A10, 0, none⟩))) (k0 : w0.cell? ⟨A3, 0, none⟩ = some (.int .u64 (ww3 x))) (l0 : (⟨A3, 0, none⟩ : Addr).block < w0.heap.size) (k1 : w0.cell? ⟨A3, 1, none⟩ = some (.int .u64 (ww2 x))) (l1 : (⟨A3, 1, none⟩ : Addr).block < w0.heap.size) (k2 : w0.cell? ⟨A3, 2, none⟩ = some (.int .u64 (ww1 x))) (l2 : (⟨A3, 2, none⟩ : Addr).block < w0.heap.size) (k3 : w0.cell? ⟨A3, 3, none⟩ = some (.int .u64 (ww0 x))) (l3 : (⟨A3, 3, none⟩ : Addr).block < w0.heap.size) (k4 : w0.cell? ⟨A10, 0, none⟩ = some (.int .u64 (ww3 (x + x)))) (l4 : (⟨A10, 0, none⟩ : Addr).block < w0.heap.size) (k5 : w0.cell? ⟨A10, 1, none⟩ = some (.int .u64 (ww2 (x + x)))) (l5 : (⟨A10, 1, none⟩ : Addr).block < w0.heap.size) (k6 : w0.cell? ⟨A10, 2, none⟩ = some (.int .u64 (ww1 (x + x)))) (l6 : (⟨A10, 2, none⟩ : Addr).block < w0.heap.size) (k7 : w0.cell? ⟨A10, 3, none⟩ = some (.int .u64 (ww0 (x + x)))) (l7 : (⟨A10, 3, none⟩ : Addr).block < w0.heap.size) (hz : a0.tmps.size = 71)
    (hQ : ∀ aq W, aq.tmps.size = a0.tmps.size → aq.defers = a0.defers → (∀ e, e ∉ ([56, 57, 58, 59, 60, 61, 62, 63, 64, 65, 66, 67, 68, 69, 70, 2] : List Nat) → aq.tmps[e]? = a0.tmps[e]?) → VwtA x sg q w0.heap.size 15 (aq.tmps.getD 2 undef) W → Below w0.heap.size w0 W → Q .normal aq W) :
    (Code.region idq #[{ dst := some 56, op := Op.move (Operand.tmp 11), type := t0, pos := q0, after := #[], guard := none },
    { dst := some 57, op := Op.unOp UnOp.not 4 (Operand.tmp 56), type := t1, pos := q1, after := #[{ on := 0, ground := Ground.data }], guard := none },
    { dst := some 58, op := Op.move (Operand.tmp 57), type := t2, pos := q2, after := #[{ on := 1, ground := Ground.data }], guard := none },
    { dst := some 59, op := Op.load 26 (Operand.tmp 3), type := t3, pos := q3, after := #[{ on := 2, ground := Ground.guard }], guard := some (2, false) },
    { dst := some 60, op := Op.call { callee := Callee.value (Operand.func 34), args := #[Operand.tmp 59], argTypes := #[26] }, type := t4, pos := q4, after := #[{ on := 3, ground := Ground.data }, { on := 2, ground := Ground.chain }, { on := 2, ground := Ground.guard }], guard := some (2, false) },
    { dst := some 61, op := Op.binOp BinOp.eql 2 (Operand.tmp 60) (Operand.const (Value.int IntKind.i64 0)) 2, type := t5, pos := q5, after := #[{ on := 4, ground := Ground.data }, { on := 2, ground := Ground.guard }], guard := some (2, false) },
    { dst := some 62, op := Op.pick (Operand.tmp 58) (Operand.const (Value.bool true)) (Operand.tmp 61), type := t6, pos := q6, after := #[{ on := 2, ground := Ground.data }, { on := 5, ground := Ground.data }], guard := none },
    { dst := some 63, op := Op.move (Operand.tmp 62), type := t7, pos := q7, after := #[{ on := 6, ground := Ground.data }, { on := 4, ground := Ground.chain }], guard := none },
    { dst := some 64, op := Op.load 26 (Operand.tmp 10), type := t8, pos := q8, after := #[{ on := 7, ground := Ground.guard }], guard := some (7, false) },
    { dst := some 65, op := Op.call { callee := Callee.value (Operand.func 35), args := #[Operand.tmp 64], argTypes := #[26] }, type := t9, pos := q9, after := #[{ on := 8, ground := Ground.data }, { on := 7, ground := Ground.chain }, { on := 7, ground := Ground.guard }], guard := some (7, false) },
    { dst := some 66, op := Op.load 26 (Operand.tmp 3), type := t10, pos := q10, after := #[{ on := 7, ground := Ground.guard }], guard := some (7, false) },
    { dst := some 67, op := Op.call { callee := Callee.value (Operand.func 35), args := #[Operand.tmp 66], argTypes := #[26] }, type := t11, pos := q11, after := #[{ on := 10, ground := Ground.data }, { on := 9, ground := Ground.chain }, { on := 7, ground := Ground.guard }], guard := some (7, false) },
    { dst := some 68, op := Op.binOp BinOp.add 2 (Operand.tmp 67) (Operand.const (Value.int IntKind.i64 1)) 2, type := t12, pos := q12, after := #[{ on := 11, ground := Ground.data }, { on := 7, ground := Ground.guard }], guard := some (7, false) },
    { dst := some 69, op := Op.binOp BinOp.eql 2 (Operand.tmp 65) (Operand.tmp 68) 2, type := t13, pos := q13, after := #[{ on := 9, ground := Ground.data }, { on := 12, ground := Ground.data }, { on := 7, ground := Ground.guard }], guard := some (7, false) },
    { dst := some 70, op := Op.pick (Operand.tmp 63) (Operand.const (Value.bool true)) (Operand.tmp 69), type := t14, pos := q14, after := #[{ on := 7, ground := Ground.data }, { on := 13, ground := Ground.data }], guard := none },
    { dst := some 2, op := Op.assign (Operand.tmp 70), type := t15, pos := q15, after := #[{ on := 14, ground := Ground.data }, { on := 11, ground := Ground.chain }, { on := 0, ground := Ground.phase }, { on := 1, ground := Ground.phase }, { on := 2, ground := Ground.phase }, { on := 3, ground := Ground.phase }, { on := 4, ground := Ground.phase }, { on := 5, ground := Ground.phase }, { on := 6, ground := Ground.phase }, { on := 7, ground := Ground.phase }, { on := 8, ground := Ground.phase }, { on := 9, ground := Ground.phase }, { on := 10, ground := Ground.phase }, { on := 11, ground := Ground.phase }, { on := 12, ground := Ground.phase }, { on := 13, ground := Ground.phase }, { on := 14, ground := Ground.phase }], guard := none }] true).wp Try.prog Q a0 w0 := by
  have hS : distS [some 56, some 57, some 58, some 59, some 60, some 61, some 62, some 63, some 64, some 65, some 66, some 67, some 68, some 69, some 70, some 2] = true := rfl
  refine wp_region_q (by kernel_rfl) w0.heap.size [some 56, some 57, some 58, some 59, some 60, some 61, some 62, some 63, some 64, some 65, some 66, some 67, some 68, some 69, some 70, some 2] (VwtA x sg q w0.heap.size) rfl ?_ ?_
  · intro Q lq aq W iq oq hJ hl ho hall
    have hJ2 := hJ
    obtain ⟨z1, z2, z3, z4, z5, z6, z7⟩ := hJ
    have g11 : aq.tmps.getD 11 undef = .bool true := by rw [Array.getD_eq_getD_getElem?, z4 11 (by decide), h11]; rfl
    have g3 : aq.tmps.getD 3 undef = .pointer (some ⟨A3, 0, none⟩) := by rw [Array.getD_eq_getD_getElem?, z4 3 (by decide), h3]; rfl
    have g10 : aq.tmps.getD 10 undef = .pointer (some ⟨A10, 0, none⟩) := by rw [Array.getD_eq_getD_getElem?, z4 10 (by decide), h10]; rfl
    have c0 : W.cell? ⟨A3, 0, none⟩ = some (.int .u64 (ww3 x)) := (z5.cell l0).trans k0
    have c1 : W.cell? ⟨A3, 1, none⟩ = some (.int .u64 (ww2 x)) := (z5.cell l1).trans k1
    have c2 : W.cell? ⟨A3, 2, none⟩ = some (.int .u64 (ww1 x)) := (z5.cell l2).trans k2
    have c3 : W.cell? ⟨A3, 3, none⟩ = some (.int .u64 (ww0 x)) := (z5.cell l3).trans k3
    have c4 : W.cell? ⟨A10, 0, none⟩ = some (.int .u64 (ww3 (x + x))) := (z5.cell l4).trans k4
    have c5 : W.cell? ⟨A10, 1, none⟩ = some (.int .u64 (ww2 (x + x))) := (z5.cell l5).trans k5
    have c6 : W.cell? ⟨A10, 2, none⟩ = some (.int .u64 (ww1 (x + x))) := (z5.cell l6).trans k6
    have c7 : W.cell? ⟨A10, 3, none⟩ = some (.int .u64 (ww0 (x + x))) := (z5.cell l7).trans k7
    match iq, ho with
    | 0, ho =>
      cases ho
      refine wpOp_of rfl rfl ?_
      have hK := fun (v : Value) (W2 : World) hW hT hv => hJ2.put hS 0 56 rfl (by omega) (W' := W2) hW hT v hv
      clear ho hall hl hQ
      generalize InvQ w0.heap.size [some 56, some 57, some 58, some 59, some 60, some 61, some 62, some 63, some 64, some 65, some 66, some 67, some 68, some 69, some 70, some 2] (VwtA x sg q w0.heap.size) w0 a0 (lq.setIfInBounds 0 true) = K at hK ⊢
      clear hJ2 hS z1 z2 z3 z4 z6 z7
      go_simp
      exact hK _ _ z5 (fun _ _ h => h) rfl
    | 1, ho =>
      cases ho
      refine wpOp_of rfl rfl ?_
      have f0 : (aq.tmps.getD 56 undef) = .bool true := z6 0 56 (hall { on := 0, ground := Ground.data } (by simp) rfl) rfl
      have hK := fun (v : Value) (W2 : World) hW hT hv => hJ2.put hS 1 57 rfl (by omega) (W' := W2) hW hT v hv
      clear ho hall hl hQ
      generalize InvQ w0.heap.size [some 56, some 57, some 58, some 59, some 60, some 61, some 62, some 63, some 64, some 65, some 66, some 67, some 68, some 69, some 70, some 2] (VwtA x sg q w0.heap.size) w0 a0 (lq.setIfInBounds 1 true) = K at hK ⊢
      clear hJ2 hS z1 z2 z3 z4 z6 z7
      go_simp
      exact hK _ _ z5 (fun _ _ h => h) rfl
    | 2, ho =>
      cases ho
      refine wpOp_of rfl rfl ?_
      have f1 : (aq.tmps.getD 57 undef) = .bool false := z6 1 57 (hall { on := 1, ground := Ground.data } (by simp) rfl) rfl
      have hK := fun (v : Value) (W2 : World) hW hT hv => hJ2.put hS 2 58 rfl (by omega) (W' := W2) hW hT v hv
      clear ho hall hl hQ
      generalize InvQ w0.heap.size [some 56, some 57, some 58, some 59, some 60, some 61, some 62, some 63, some 64, some 65, some 66, some 67, some 68, some 69, some 70, some 2] (VwtA x sg q w0.heap.size) w0 a0 (lq.setIfInBounds 2 true) = K at hK ⊢
      clear hJ2 hS z1 z2 z3 z4 z6 z7
      go_simp
      exact hK _ _ z5 (fun _ _ h => h) rfl
    | 3, ho =>
      cases ho
      have fg : aq.tmps.getD 58 undef = .bool false := z6 2 58 (hall { on := 2, ground := Ground.guard } (by simp) rfl) rfl
      refine wpOp_on rfl rfl rfl rfl fg ?_
      have hK := fun (v : Value) (W2 : World) hW hT hv => hJ2.put hS 3 59 rfl (by omega) (W' := W2) hW hT v hv
      clear ho hall hl hQ
      generalize InvQ w0.heap.size [some 56, some 57, some 58, some 59, some 60, some 61, some 62, some 63, some 64, some 65, some 66, some 67, some 68, some 69, some 70, some 2] (VwtA x sg q w0.heap.size) w0 a0 (lq.setIfInBounds 3 true) = K at hK ⊢
      clear hJ2 hS z1 z2 z3 z4 z6 z7
      go_simp
      exact hK _ _ z5 (fun _ _ h => h) rfl
    | 4, ho =>
      cases ho
      have fg : aq.tmps.getD 58 undef = .bool false := z6 2 58 (hall { on := 2, ground := Ground.guard } (by simp) rfl) rfl
      refine wpOp_on rfl rfl rfl rfl fg ?_
      have f3 : (aq.tmps.getD 59 undef) = .agg #[.int .u64 (ww3 x), .int .u64 (ww2 x), .int .u64 (ww1 x), .int .u64 (ww0 x)] := z6 3 59 (hall { on := 3, ground := Ground.data } (by simp) rfl) rfl
      have hK := fun (v : Value) (W2 : World) hW hT hv => hJ2.put hS 4 60 rfl (by omega) (W' := W2) hW hT v hv
      clear ho hall hl hQ
      generalize InvQ w0.heap.size [some 56, some 57, some 58, some 59, some 60, some 61, some 62, some 63, some 64, some 65, some 66, some 67, some 68, some 69, some 70, some 2] (VwtA x sg q w0.heap.size) w0 a0 (lq.setIfInBounds 4 true) = K at hK ⊢
      clear hJ2 hS z1 z2 z3 z4 z6 z7
      go_simp
      refine (hS W).mono ?_
      rintro e v1 ⟨rfl, hBv⟩
      exact hK _ _ (z5.trans (hBv.mono z5.size)) (fun _ _ h => h.mono hBv) rfl
    | 5, ho =>
      cases ho
      have fg : aq.tmps.getD 58 undef = .bool false := z6 2 58 (hall { on := 2, ground := Ground.guard } (by simp) rfl) rfl
      refine wpOp_on rfl rfl rfl rfl fg ?_
      have f4 : (aq.tmps.getD 60 undef) = .int .i64 sg := z6 4 60 (hall { on := 4, ground := Ground.data } (by simp) rfl) rfl
      have hK := fun (v : Value) (W2 : World) hW hT hv => hJ2.put hS 5 61 rfl (by omega) (W' := W2) hW hT v hv
      clear ho hall hl hQ
      generalize InvQ w0.heap.size [some 56, some 57, some 58, some 59, some 60, some 61, some 62, some 63, some 64, some 65, some 66, some 67, some 68, some 69, some 70, some 2] (VwtA x sg q w0.heap.size) w0 a0 (lq.setIfInBounds 5 true) = K at hK ⊢
      clear hJ2 hS z1 z2 z3 z4 z6 z7
      go_simp
      exact hK _ _ z5 (fun _ _ h => h) rfl
    | 6, ho =>
      cases ho
      refine wpOp_of rfl rfl ?_
      have f2 : (aq.tmps.getD 58 undef) = .bool false := z6 2 58 (hall { on := 2, ground := Ground.data } (by simp) rfl) rfl
      have f5 : (aq.tmps.getD 61 undef) = .bool false := z6 5 61 (hall { on := 5, ground := Ground.data } (by simp) rfl) rfl
      have hK := fun (v : Value) (W2 : World) hW hT hv => hJ2.put hS 6 62 rfl (by omega) (W' := W2) hW hT v hv
      clear ho hall hl hQ
      generalize InvQ w0.heap.size [some 56, some 57, some 58, some 59, some 60, some 61, some 62, some 63, some 64, some 65, some 66, some 67, some 68, some 69, some 70, some 2] (VwtA x sg q w0.heap.size) w0 a0 (lq.setIfInBounds 6 true) = K at hK ⊢
      clear hJ2 hS z1 z2 z3 z4 z6 z7
      go_simp
      exact hK _ _ z5 (fun _ _ h => h) rfl
    | 7, ho =>
      cases ho
      refine wpOp_of rfl rfl ?_
      have f6 : (aq.tmps.getD 62 undef) = .bool false := z6 6 62 (hall { on := 6, ground := Ground.data } (by simp) rfl) rfl
      have hK := fun (v : Value) (W2 : World) hW hT hv => hJ2.put hS 7 63 rfl (by omega) (W' := W2) hW hT v hv
      clear ho hall hl hQ
      generalize InvQ w0.heap.size [some 56, some 57, some 58, some 59, some 60, some 61, some 62, some 63, some 64, some 65, some 66, some 67, some 68, some 69, some 70, some 2] (VwtA x sg q w0.heap.size) w0 a0 (lq.setIfInBounds 7 true) = K at hK ⊢
      clear hJ2 hS z1 z2 z3 z4 z6 z7
      go_simp
      exact hK _ _ z5 (fun _ _ h => h) rfl
    | 8, ho =>
      cases ho
      have fg : aq.tmps.getD 63 undef = .bool false := z6 7 63 (hall { on := 7, ground := Ground.guard } (by simp) rfl) rfl
      refine wpOp_on rfl rfl rfl rfl fg ?_
      have hK := fun (v : Value) (W2 : World) hW hT hv => hJ2.put hS 8 64 rfl (by omega) (W' := W2) hW hT v hv
      clear ho hall hl hQ
      generalize InvQ w0.heap.size [some 56, some 57, some 58, some 59, some 60, some 61, some 62, some 63, some 64, some 65, some 66, some 67, some 68, some 69, some 70, some 2] (VwtA x sg q w0.heap.size) w0 a0 (lq.setIfInBounds 8 true) = K at hK ⊢
      clear hJ2 hS z1 z2 z3 z4 z6 z7
      go_simp
      exact hK _ _ z5 (fun _ _ h => h) rfl
    | 9, ho =>
      cases ho
      have fg : aq.tmps.getD 63 undef = .bool false := z6 7 63 (hall { on := 7, ground := Ground.guard } (by simp) rfl) rfl
      refine wpOp_on rfl rfl rfl rfl fg ?_
      have f8 : (aq.tmps.getD 64 undef) = .agg #[.int .u64 (ww3 (x + x)), .int .u64 (ww2 (x + x)), .int .u64 (ww1 (x + x)), .int .u64 (ww0 (x + x))] := z6 8 64 (hall { on := 8, ground := Ground.data } (by simp) rfl) rfl
      have hK := fun (v : Value) (W2 : World) hW hT hv => hJ2.put hS 9 65 rfl (by omega) (W' := W2) hW hT v hv
      clear ho hall hl hQ
      generalize InvQ w0.heap.size [some 56, some 57, some 58, some 59, some 60, some 61, some 62, some 63, some 64, some 65, some 66, some 67, some 68, some 69, some 70, some 2] (VwtA x sg q w0.heap.size) w0 a0 (lq.setIfInBounds 9 true) = K at hK ⊢
      clear hJ2 hS z1 z2 z3 z4 z6 z7
      go_simp
      refine (hB1 W).mono ?_
      rintro e v1 ⟨rfl, hBv⟩
      exact hK _ _ (z5.trans (hBv.mono z5.size)) (fun _ _ h => h.mono hBv) rfl
    | 10, ho =>
      cases ho
      have fg : aq.tmps.getD 63 undef = .bool false := z6 7 63 (hall { on := 7, ground := Ground.guard } (by simp) rfl) rfl
      refine wpOp_on rfl rfl rfl rfl fg ?_
      have hK := fun (v : Value) (W2 : World) hW hT hv => hJ2.put hS 10 66 rfl (by omega) (W' := W2) hW hT v hv
      clear ho hall hl hQ
      generalize InvQ w0.heap.size [some 56, some 57, some 58, some 59, some 60, some 61, some 62, some 63, some 64, some 65, some 66, some 67, some 68, some 69, some 70, some 2] (VwtA x sg q w0.heap.size) w0 a0 (lq.setIfInBounds 10 true) = K at hK ⊢
      clear hJ2 hS z1 z2 z3 z4 z6 z7
      go_simp
      exact hK _ _ z5 (fun _ _ h => h) rfl
    | 11, ho =>
      cases ho
      have fg : aq.tmps.getD 63 undef = .bool false := z6 7 63 (hall { on := 7, ground := Ground.guard } (by simp) rfl) rfl
      refine wpOp_on rfl rfl rfl rfl fg ?_
      have f10 : (aq.tmps.getD 66 undef) = .agg #[.int .u64 (ww3 x), .int .u64 (ww2 x), .int .u64 (ww1 x), .int .u64 (ww0 x)] := z6 10 66 (hall { on := 10, ground := Ground.data } (by simp) rfl) rfl
      have hK := fun (v : Value) (W2 : World) hW hT hv => hJ2.put hS 11 67 rfl (by omega) (W' := W2) hW hT v hv
      clear ho hall hl hQ
      generalize InvQ w0.heap.size [some 56, some 57, some 58, some 59, some 60, some 61, some 62, some 63, some 64, some 65, some 66, some 67, some 68, some 69, some 70, some 2] (VwtA x sg q w0.heap.size) w0 a0 (lq.setIfInBounds 11 true) = K at hK ⊢
      clear hJ2 hS z1 z2 z3 z4 z6 z7
      go_simp
      refine (hB2 W).mono ?_
      rintro e v1 ⟨rfl, hBv⟩
      exact hK _ _ (z5.trans (hBv.mono z5.size)) (fun _ _ h => h.mono hBv) rfl
    | 12, ho =>
      cases ho
      have fg : aq.tmps.getD 63 undef = .bool false := z6 7 63 (hall { on := 7, ground := Ground.guard } (by simp) rfl) rfl
      refine wpOp_on rfl rfl rfl rfl fg ?_
      have f11 : (aq.tmps.getD 67 undef) = .int .i64 (q : Int) := z6 11 67 (hall { on := 11, ground := Ground.data } (by simp) rfl) rfl
      have hK := fun (v : Value) (W2 : World) hW hT hv => hJ2.put hS 12 68 rfl (by omega) (W' := W2) hW hT v hv
      clear ho hall hl hQ
      generalize InvQ w0.heap.size [some 56, some 57, some 58, some 59, some 60, some 61, some 62, some 63, some 64, some 65, some 66, some 67, some 68, some 69, some 70, some 2] (VwtA x sg q w0.heap.size) w0 a0 (lq.setIfInBounds 12 true) = K at hK ⊢
      clear hJ2 hS z1 z2 z3 z4 z6 z7
      go_simp
      exact hK _ _ z5 (fun _ _ h => h) (by show _ = _; congr 1; rw [IntKind.wrap_i64]; omega)
    | 13, ho =>
      cases ho
      have fg : aq.tmps.getD 63 undef = .bool false := z6 7 63 (hall { on := 7, ground := Ground.guard } (by simp) rfl) rfl
      refine wpOp_on rfl rfl rfl rfl fg ?_
      have f9 : (aq.tmps.getD 65 undef) = .int .i64 ((q + 1 : Nat) : Int) := z6 9 65 (hall { on := 9, ground := Ground.data } (by simp) rfl) rfl
      have f12 : (aq.tmps.getD 68 undef) = .int .i64 ((q + 1 : Nat) : Int) := z6 12 68 (hall { on := 12, ground := Ground.data } (by simp) rfl) rfl
      have hK := fun (v : Value) (W2 : World) hW hT hv => hJ2.put hS 13 69 rfl (by omega) (W' := W2) hW hT v hv
      clear ho hall hl hQ
      generalize InvQ w0.heap.size [some 56, some 57, some 58, some 59, some 60, some 61, some 62, some 63, some 64, some 65, some 66, some 67, some 68, some 69, some 70, some 2] (VwtA x sg q w0.heap.size) w0 a0 (lq.setIfInBounds 13 true) = K at hK ⊢
      clear hJ2 hS z1 z2 z3 z4 z6 z7
      go_simp
      exact hK _ _ z5 (fun _ _ h => h) (by show _ = _; first | rfl | simp)
    | 14, ho =>
      cases ho
      refine wpOp_of rfl rfl ?_
      have f7 : (aq.tmps.getD 63 undef) = .bool false := z6 7 63 (hall { on := 7, ground := Ground.data } (by simp) rfl) rfl
      have f13 : (aq.tmps.getD 69 undef) = .bool true := z6 13 69 (hall { on := 13, ground := Ground.data } (by simp) rfl) rfl
      have hK := fun (v : Value) (W2 : World) hW hT hv => hJ2.put hS 14 70 rfl (by omega) (W' := W2) hW hT v hv
      clear ho hall hl hQ
      generalize InvQ w0.heap.size [some 56, some 57, some 58, some 59, some 60, some 61, some 62, some 63, some 64, some 65, some 66, some 67, some 68, some 69, some 70, some 2] (VwtA x sg q w0.heap.size) w0 a0 (lq.setIfInBounds 14 true) = K at hK ⊢
      clear hJ2 hS z1 z2 z3 z4 z6 z7
      go_simp
      exact hK _ _ z5 (fun _ _ h => h) rfl
    | 15, ho =>
      cases ho
      refine wpOp_of rfl rfl ?_
      have f14 : (aq.tmps.getD 70 undef) = .bool true := z6 14 70 (hall { on := 14, ground := Ground.data } (by simp) rfl) rfl
      have hK := fun (v : Value) (W2 : World) hW hT hv => hJ2.put hS 15 2 rfl (by omega) (W' := W2) hW hT v hv
      clear ho hall hl hQ
      generalize InvQ w0.heap.size [some 56, some 57, some 58, some 59, some 60, some 61, some 62, some 63, some 64, some 65, some 66, some 67, some 68, some 69, some 70, some 2] (VwtA x sg q w0.heap.size) w0 a0 (lq.setIfInBounds 15 true) = K at hK ⊢
      clear hJ2 hS z1 z2 z3 z4 z6 z7
      go_simp
      exact hK _ _ z5 (fun _ _ h => h) rfl
    | iq + 16, ho => simp at ho
  · intro lq aq W hJ hr
    obtain ⟨z1, z2, z3, z4, z5, z6, z7⟩ := hJ
    have hl := listed_of hr [0, 1, 2, 3, 4, 5, 6, 7, 8, 9, 10, 11, 12, 13, 14, 15] [] (by simp) (by kernel_rfl) (by rw [z1]; decide)
    exact hQ aq W z2 z3 (fun e he => z4 e (by simpa using he)) (z6 15 2 (hl 15 (by simp)) rfl) z5
set_option maxRecDepth 100000 in
set_option maxHeartbeats 8000000 in
theorem lawWideTexts_any (ao : Option Addr) (n cap : Nat) (cs : List Int) (w : World) (h : n ≤ 1048576 → Code w ao n cs) : Calls Try.prog 9 #[.slice ao n cap] w (BoolP true w) := by
  by_cases hn : 1048576 < n
  · go_enter Try.func9, Try.ntmps9
    go_wp2_with fail
    refine (bigt_any ao n cap _ true (by simpa using hn)).mono ?_
    rintro e w1 ⟨rfl, hB⟩
    clear h
    go_wp2
    go_ret
    exact ⟨rfl, hB⟩
  · have hc := h (by omega)
    clear h
    go_enter Try.func9, Try.ntmps9
    go_wp2_with fail
    refine (bigt_any ao n cap _ false (by simpa using hn)).mono ?_
    rintro e w1 ⟨rfl, hB⟩
    replace hc := hc.below hB
    have HB := hB
    clear hB
    go_wp2_with fail
    refine (drawWideText_any ao n cap cs _ hc).mono ?_
    rintro e w2 ⟨a3, a2, a1, a0, rfl, p3, p2, p1, p0, hB⟩
    replace HB := HB.trans (hB.mono HB.size)
    replace hc := hc.below hB
    clear hB
    have tx := told_sw p3 p2 p1 p0
    obtain ⟨x, hx⟩ : ∃ x, x = sw a3 a2 a1 a0 := ⟨_, rfl⟩
    rw [← hx] at tx
    obtain ⟨rfl, rfl, rfl, rfl⟩ := wd_of p3 p2 p1 p0 hx.symm
    clear hx p3 p2 p1 p0
    have X1 := Blk.new w2 [.int .u64 (ww3 x), .int .u64 (ww2 x), .int .u64 (ww1 x), .int .u64 (ww0 x)] 26 rfl
    rw [show ([.int .u64 (ww3 x), .int .u64 (ww2 x), .int .u64 (ww1 x), .int .u64 (ww0 x)] : List Value).toArray = #[.int .u64 (ww3 x), .int .u64 (ww2 x), .int .u64 (ww1 x), .int .u64 (ww0 x)] from rfl] at X1
    replace HB := HB.alloc HB.size (.cells #[.int .u64 (ww3 x), .int .u64 (ww2 x), .int .u64 (ww1 x), .int .u64 (ww0 x)] 26)
    replace hc := hc.below ((Below.refl _ _).alloc (Nat.le_refl _) (.cells #[.int .u64 (ww3 x), .int .u64 (ww2 x), .int .u64 (ww1 x), .int .u64 (ww0 x)] 26))
    have CT := textI_det x tx
    have CS : ∀ w, Calls Try.prog 12 #[.agg #[.int .u64 (ww3 x), .int .u64 (ww2 x), .int .u64 (ww1 x), .int .u64 (ww0 x)]] w (VP (.string (txS x)) w) := by
      intro w
      obtain ⟨g3, g2, g1, g0⟩ := ww_words x
      have := specText_any _ _ _ _ g3 g2 g1 g0 w
      rw [ww_sw tx] at this
      exact this
    have CR := implRead_any (txS x) (by have := txS_le tx; omega)
    rw [btL_txS, rdV_yes (tx_rd (told77 tx)).1, (tx_rd (told77 tx)).2, show tellV x = .tuple #[.agg #[.int .u64 (ww3 x), .int .u64 (ww2 x), .int .u64 (ww1 x), .int .u64 (ww0 x)], .bool true] by unfold tellV; rw [tx]; rfl] at CR
    have CA := plusZ_det x x tx tx
    have E := eqW10 x x tx tx
    rw [decide_eq_true rfl] at E
    have e0 : ((txS x).toList == (txS x).toList) = true := beq_iff_eq.2 rfl
    generalize txS x = S at *
    obtain ⟨c0, c1, c2, c3⟩ := X1.cs4
    go_wp2_with fail
    clear c0 c1 c2 c3
    generalize w2.heap.size = g1 at *
    generalize (w2.alloc (.cells #[.int .u64 (ww3 x), .int .u64 (ww2 x), .int .u64 (ww1 x), .int .u64 (ww0 x)] 26)) = W1 at *
    refine (CT _).mono ?_
    rintro e w3 ⟨rfl, hB⟩
    replace HB := HB.trans (hB.mono HB.size)
    replace X1 := X1.step hB
    replace hc := hc.below hB
    clear hB
    clear CT
    go_wp2_with fail
    refine (CR _).mono ?_
    rintro e w4 ⟨rfl, hB⟩
    replace HB := HB.trans (hB.mono HB.size)
    replace X1 := X1.step hB
    replace hc := hc.below hB
    clear hB
    clear CR
    have X2 := Blk.new w4 [.int .u64 (ww3 x), .int .u64 (ww2 x), .int .u64 (ww1 x), .int .u64 (ww0 x)] 26 rfl
    rw [show ([.int .u64 (ww3 x), .int .u64 (ww2 x), .int .u64 (ww1 x), .int .u64 (ww0 x)] : List Value).toArray = #[.int .u64 (ww3 x), .int .u64 (ww2 x), .int .u64 (ww1 x), .int .u64 (ww0 x)] from rfl] at X2
    replace HB := HB.alloc HB.size (.cells #[.int .u64 (ww3 x), .int .u64 (ww2 x), .int .u64 (ww1 x), .int .u64 (ww0 x)] 26)
    replace X1 := X1.alloc (.cells #[.int .u64 (ww3 x), .int .u64 (ww2 x), .int .u64 (ww1 x), .int .u64 (ww0 x)] 26)
    replace hc := hc.below ((Below.refl _ _).alloc (Nat.le_refl _) (.cells #[.int .u64 (ww3 x), .int .u64 (ww2 x), .int .u64 (ww1 x), .int .u64 (ww0 x)] 26))
    obtain ⟨c0, c1, c2, c3⟩ := X1.cs4
    go_wp2_with fail
    generalize w4.heap.size = g2 at *
    generalize (w4.alloc (.cells #[.int .u64 (ww3 x), .int .u64 (ww2 x), .int .u64 (ww1 x), .int .u64 (ww0 x)] 26)) = W2 at *
    refine (CS _).mono ?_
    rintro e w5 ⟨rfl, hB⟩
    replace HB := HB.trans (hB.mono HB.size)
    replace X1 := X1.step hB
    replace X2 := X2.step hB
    replace hc := hc.below hB
    clear hB
    clear CS c0 c1 c2 c3
    obtain ⟨c0, c1, c2, c3⟩ := X1.cs4
    obtain ⟨d0, d1, d2, d3⟩ := X2.cs4
    go_wp2_with fail
    clear c0 c1 c2 c3 d0 d1 d2 d3 X2 E e0
    refine (drawReadWide_any ao n cap cs _ hc).mono ?_
    rintro e w7 ⟨s, rfl, hs, hB⟩
    replace HB := HB.trans (hB.mono HB.size)
    replace X1 := X1.step hB
    clear hB hc
    have CR := implRead_any s (by omega)
    rcases rd_cases (btL s) with ⟨u, tu, hl, hr⟩ | ⟨_, hr⟩
    · rw [hr] at CR
      have CT := textI_det u tu
      rw [show txS u = s by unfold txS; rw [← hl, strL_btL]] at CT
      have e1 : (s.toList == s.toList) = true := beq_iff_eq.2 rfl
      clear hl hr tu
      go_wp2_with fail
      refine (CR _).mono ?_
      rintro e w8 ⟨rfl, hB⟩
      replace HB := HB.trans (hB.mono HB.size)
      replace X1 := X1.step hB
      clear hB
      clear CR
      have X3 := Blk.new w8 [.int .u64 (ww3 u), .int .u64 (ww2 u), .int .u64 (ww1 u), .int .u64 (ww0 u)] 26 rfl
      rw [show ([.int .u64 (ww3 u), .int .u64 (ww2 u), .int .u64 (ww1 u), .int .u64 (ww0 u)] : List Value).toArray = #[.int .u64 (ww3 u), .int .u64 (ww2 u), .int .u64 (ww1 u), .int .u64 (ww0 u)] from rfl] at X3
      replace HB := HB.alloc HB.size (.cells #[.int .u64 (ww3 u), .int .u64 (ww2 u), .int .u64 (ww1 u), .int .u64 (ww0 u)] 26)
      replace X1 := X1.alloc (.cells #[.int .u64 (ww3 u), .int .u64 (ww2 u), .int .u64 (ww1 u), .int .u64 (ww0 u)] 26)
      obtain ⟨d0, d1, d2, d3⟩ := X3.cs4
      go_wp2_with fail
      clear d0 d1 d2 d3 X3
      generalize w8.heap.size = g3 at *
      generalize (w8.alloc (.cells #[.int .u64 (ww3 u), .int .u64 (ww2 u), .int .u64 (ww1 u), .int .u64 (ww0 u)] 26)) = W3 at *
      refine (CT _).mono ?_
      rintro e w9 ⟨rfl, hB⟩
      replace HB := HB.trans (hB.mono HB.size)
      replace X1 := X1.step hB
      clear hB
      clear CT
      obtain ⟨c0, c1, c2, c3⟩ := X1.cs4
      go_wp2_with fail
      clear c0 c1 c2 c3
      cases hd : told (x + x)
      · rw [show tellV (x + x) = .tuple #[.agg #[.int .u64 0, .int .u64 0, .int .u64 0, .int .u64 0], .bool false] by unfold tellV; rw [hd]; rfl] at CA
        clear hd
        refine (CA _).mono ?_
        rintro e u1 ⟨rfl, hB⟩
        replace HB := HB.trans (hB.mono HB.size)
        replace X1 := X1.step hB
        clear hB
        clear CA
        replace HB := HB.alloc HB.size (.cells #[.int .u64 0, .int .u64 0, .int .u64 0, .int .u64 0] 26)
        go_wp2_with fail
        generalize u1.heap.size = g10 at *
        generalize (u1.alloc (.cells #[.int .u64 0, .int .u64 0, .int .u64 0, .int .u64 0] 26)) = U1 at *
        refine wtN (A3 := g1) (A10 := g10) rfl rfl rfl rfl ?_
        rintro ⟨tm, df⟩ Wz hz hdf hoff h2 hBz
        simp only at hz hdf hoff h2
        change tm.getD 2 undef = .bool true at h2
        subst hdf
        have htm := tmps_fold [56, 57, 58, 59, 60, 61, 62, 63, 64, 65, 66, 67, 68, 69, 70, 2] tm _ hz hoff
        simp only [List.foldl, List.setIfInBounds_toArray, List.set_cons_zero, List.set_cons_succ, h2] at htm
        clear hz hoff
        generalize tm.getD 56 undef = u0, tm.getD 57 undef = u1, tm.getD 58 undef = u2, tm.getD 59 undef = u3, tm.getD 60 undef = u4, tm.getD 61 undef = u5, tm.getD 62 undef = u6, tm.getD 63 undef = u7, tm.getD 64 undef = u8, tm.getD 65 undef = u9, tm.getD 66 undef = u10, tm.getD 67 undef = u11, tm.getD 68 undef = u12, tm.getD 69 undef = u13, tm.getD 70 undef = u14 at htm
        clear h2
        subst htm
        go_wp2
        go_ret
        exact ⟨rfl, HB.trans (hBz.mono HB.size)⟩
      · rw [show tellV (x + x) = .tuple #[.agg #[.int .u64 (ww3 (x + x)), .int .u64 (ww2 (x + x)), .int .u64 (ww1 (x + x)), .int .u64 (ww0 (x + x))], .bool true] by unfold tellV; rw [hd]; rfl] at CA
        refine (CA _).mono ?_
        rintro e u1 ⟨rfl, hB⟩
        replace HB := HB.trans (hB.mono HB.size)
        replace X1 := X1.step hB
        clear hB
        clear CA
        have X5 := Blk.new u1 [.int .u64 (ww3 (x + x)), .int .u64 (ww2 (x + x)), .int .u64 (ww1 (x + x)), .int .u64 (ww0 (x + x))] 26 rfl
        rw [show ([.int .u64 (ww3 (x + x)), .int .u64 (ww2 (x + x)), .int .u64 (ww1 (x + x)), .int .u64 (ww0 (x + x))] : List Value).toArray = #[.int .u64 (ww3 (x + x)), .int .u64 (ww2 (x + x)), .int .u64 (ww1 (x + x)), .int .u64 (ww0 (x + x))] from rfl] at X5
        replace HB := HB.alloc HB.size (.cells #[.int .u64 (ww3 (x + x)), .int .u64 (ww2 (x + x)), .int .u64 (ww1 (x + x)), .int .u64 (ww0 (x + x))] 26)
        replace X1 := X1.alloc (.cells #[.int .u64 (ww3 (x + x)), .int .u64 (ww2 (x + x)), .int .u64 (ww1 (x + x)), .int .u64 (ww0 (x + x))] 26)
        go_wp2_with fail
        generalize u1.heap.size = g10 at *
        generalize (u1.alloc (.cells #[.int .u64 (ww3 (x + x)), .int .u64 (ww2 (x + x)), .int .u64 (ww1 (x + x)), .int .u64 (ww0 (x + x))] 26)) = U1 at *
        by_cases hx0 : x = 0
        · have CSg : ∀ w, Calls Try.prog 34 #[.agg #[.int .u64 (ww3 x), .int .u64 (ww2 x), .int .u64 (ww1 x), .int .u64 (ww0 x)]] w (VP (.int .i64 0) w) := by
            intro w
            have := sign_det x tx w
            rw [show cmpI x 0 = 0 by rw [hx0]; rfl] at this
            exact this
          clear hx0 hd
          refine wtZ (x := x) (A3 := g1) (A10 := g10) CSg rfl rfl rfl (X1.c 0 rfl) X1.lt (X1.c 1 rfl) X1.lt (X1.c 2 rfl) X1.lt (X1.c 3 rfl) X1.lt rfl ?_
          rintro ⟨tm, df⟩ Wz hz hdf hoff h2 hBz
          simp only at hz hdf hoff h2
          change tm.getD 2 undef = .bool true at h2
          subst hdf
          have htm := tmps_fold [56, 57, 58, 59, 60, 61, 62, 63, 64, 65, 66, 67, 68, 69, 70, 2] tm _ hz hoff
          simp only [List.foldl, List.setIfInBounds_toArray, List.set_cons_zero, List.set_cons_succ, h2] at htm
          clear hz hoff
          generalize tm.getD 56 undef = u0, tm.getD 57 undef = u1, tm.getD 58 undef = u2, tm.getD 59 undef = u3, tm.getD 60 undef = u4, tm.getD 61 undef = u5, tm.getD 62 undef = u6, tm.getD 63 undef = u7, tm.getD 64 undef = u8, tm.getD 65 undef = u9, tm.getD 66 undef = u10, tm.getD 67 undef = u11, tm.getD 68 undef = u12, tm.getD 69 undef = u13, tm.getD 70 undef = u14 at htm
          clear h2
          subst htm
          go_wp2
          go_ret
          exact ⟨rfl, HB.trans (hBz.mono HB.size)⟩
        · obtain ⟨q, hq1, hq2, hq3⟩ := bits_ex x.natAbs
          have hq : q ≤ 1000 := by
            have h1 := of_decide_eq_true tx
            have := hq3 (by omega)
            omega
          have CB2 := fun w => bitsV tx hq1 w
          have CB1 := fun w => bitsV hd (b := q + 1) (by have := hq2 (by omega); rw [show (x + x).natAbs = 2 * x.natAbs by omega]; exact this) w
          have CSg := sign_det x tx
          have hsg : (cmpI x 0 == 0) = false := beq_eq_false_iff_ne.2 (by unfold cmpI; repeat' split; all_goals omega)
          generalize cmpI x 0 = sg at *
          clear hx0 hd hq1 hq2 hq3
          refine wtA (x := x) (sg := sg) (q := q) (A3 := g1) (A10 := g10) CSg CB1 CB2 hsg hq rfl rfl rfl (X1.c 0 rfl) X1.lt (X1.c 1 rfl) X1.lt (X1.c 2 rfl) X1.lt (X1.c 3 rfl) X1.lt (X5.c 0 rfl) X5.lt (X5.c 1 rfl) X5.lt (X5.c 2 rfl) X5.lt (X5.c 3 rfl) X5.lt rfl ?_
          rintro ⟨tm, df⟩ Wz hz hdf hoff h2 hBz
          simp only at hz hdf hoff h2
          change tm.getD 2 undef = .bool true at h2
          subst hdf
          have htm := tmps_fold [56, 57, 58, 59, 60, 61, 62, 63, 64, 65, 66, 67, 68, 69, 70, 2] tm _ hz hoff
          simp only [List.foldl, List.setIfInBounds_toArray, List.set_cons_zero, List.set_cons_succ, h2] at htm
          clear hz hoff
          generalize tm.getD 56 undef = u0, tm.getD 57 undef = u1, tm.getD 58 undef = u2, tm.getD 59 undef = u3, tm.getD 60 undef = u4, tm.getD 61 undef = u5, tm.getD 62 undef = u6, tm.getD 63 undef = u7, tm.getD 64 undef = u8, tm.getD 65 undef = u9, tm.getD 66 undef = u10, tm.getD 67 undef = u11, tm.getD 68 undef = u12, tm.getD 69 undef = u13, tm.getD 70 undef = u14 at htm
          clear h2
          subst htm
          go_wp2
          go_ret
          exact ⟨rfl, HB.trans (hBz.mono HB.size)⟩
    · rw [hr] at CR
      clear hr
      go_wp2_with fail
      refine (CR _).mono ?_
      rintro e w8 ⟨rfl, hB⟩
      replace HB := HB.trans (hB.mono HB.size)
      replace X1 := X1.step hB
      clear hB
      clear CR
      have X3 := Blk.new w8 [.int .u64 (ww3 0), .int .u64 (ww2 0), .int .u64 (ww1 0), .int .u64 (ww0 0)] 26 rfl
      rw [show ([.int .u64 (ww3 0), .int .u64 (ww2 0), .int .u64 (ww1 0), .int .u64 (ww0 0)] : List Value).toArray = #[.int .u64 (ww3 0), .int .u64 (ww2 0), .int .u64 (ww1 0), .int .u64 (ww0 0)] from rfl] at X3
      replace HB := HB.alloc HB.size (.cells #[.int .u64 (ww3 0), .int .u64 (ww2 0), .int .u64 (ww1 0), .int .u64 (ww0 0)] 26)
      replace X1 := X1.alloc (.cells #[.int .u64 (ww3 0), .int .u64 (ww2 0), .int .u64 (ww1 0), .int .u64 (ww0 0)] 26)
      clear X3
      obtain ⟨c0, c1, c2, c3⟩ := X1.cs4
      go_wp2_with fail
      clear c0 c1 c2 c3
      generalize w8.heap.size = g3 at *
      generalize (w8.alloc (.cells #[.int .u64 (ww3 0), .int .u64 (ww2 0), .int .u64 (ww1 0), .int .u64 (ww0 0)] 26)) = W3 at *
      cases hd : told (x + x)
      · rw [show tellV (x + x) = .tuple #[.agg #[.int .u64 0, .int .u64 0, .int .u64 0, .int .u64 0], .bool false] by unfold tellV; rw [hd]; rfl] at CA
        clear hd
        refine (CA _).mono ?_
        rintro e u1 ⟨rfl, hB⟩
        replace HB := HB.trans (hB.mono HB.size)
        replace X1 := X1.step hB
        clear hB
        clear CA
        replace HB := HB.alloc HB.size (.cells #[.int .u64 0, .int .u64 0, .int .u64 0, .int .u64 0] 26)
        go_wp2_with fail
        generalize u1.heap.size = g10 at *
        generalize (u1.alloc (.cells #[.int .u64 0, .int .u64 0, .int .u64 0, .int .u64 0] 26)) = U1 at *
        refine wtN (A3 := g1) (A10 := g10) rfl rfl rfl rfl ?_
        rintro ⟨tm, df⟩ Wz hz hdf hoff h2 hBz
        simp only at hz hdf hoff h2
        change tm.getD 2 undef = .bool true at h2
        subst hdf
        have htm := tmps_fold [56, 57, 58, 59, 60, 61, 62, 63, 64, 65, 66, 67, 68, 69, 70, 2] tm _ hz hoff
        simp only [List.foldl, List.setIfInBounds_toArray, List.set_cons_zero, List.set_cons_succ, h2] at htm
        clear hz hoff
        generalize tm.getD 56 undef = u0, tm.getD 57 undef = u1, tm.getD 58 undef = u2, tm.getD 59 undef = u3, tm.getD 60 undef = u4, tm.getD 61 undef = u5, tm.getD 62 undef = u6, tm.getD 63 undef = u7, tm.getD 64 undef = u8, tm.getD 65 undef = u9, tm.getD 66 undef = u10, tm.getD 67 undef = u11, tm.getD 68 undef = u12, tm.getD 69 undef = u13, tm.getD 70 undef = u14 at htm
        clear h2
        subst htm
        go_wp2
        go_ret
        exact ⟨rfl, HB.trans (hBz.mono HB.size)⟩
      · rw [show tellV (x + x) = .tuple #[.agg #[.int .u64 (ww3 (x + x)), .int .u64 (ww2 (x + x)), .int .u64 (ww1 (x + x)), .int .u64 (ww0 (x + x))], .bool true] by unfold tellV; rw [hd]; rfl] at CA
        refine (CA _).mono ?_
        rintro e u1 ⟨rfl, hB⟩
        replace HB := HB.trans (hB.mono HB.size)
        replace X1 := X1.step hB
        clear hB
        clear CA
        have X5 := Blk.new u1 [.int .u64 (ww3 (x + x)), .int .u64 (ww2 (x + x)), .int .u64 (ww1 (x + x)), .int .u64 (ww0 (x + x))] 26 rfl
        rw [show ([.int .u64 (ww3 (x + x)), .int .u64 (ww2 (x + x)), .int .u64 (ww1 (x + x)), .int .u64 (ww0 (x + x))] : List Value).toArray = #[.int .u64 (ww3 (x + x)), .int .u64 (ww2 (x + x)), .int .u64 (ww1 (x + x)), .int .u64 (ww0 (x + x))] from rfl] at X5
        replace HB := HB.alloc HB.size (.cells #[.int .u64 (ww3 (x + x)), .int .u64 (ww2 (x + x)), .int .u64 (ww1 (x + x)), .int .u64 (ww0 (x + x))] 26)
        replace X1 := X1.alloc (.cells #[.int .u64 (ww3 (x + x)), .int .u64 (ww2 (x + x)), .int .u64 (ww1 (x + x)), .int .u64 (ww0 (x + x))] 26)
        go_wp2_with fail
        generalize u1.heap.size = g10 at *
        generalize (u1.alloc (.cells #[.int .u64 (ww3 (x + x)), .int .u64 (ww2 (x + x)), .int .u64 (ww1 (x + x)), .int .u64 (ww0 (x + x))] 26)) = U1 at *
        by_cases hx0 : x = 0
        · have CSg : ∀ w, Calls Try.prog 34 #[.agg #[.int .u64 (ww3 x), .int .u64 (ww2 x), .int .u64 (ww1 x), .int .u64 (ww0 x)]] w (VP (.int .i64 0) w) := by
            intro w
            have := sign_det x tx w
            rw [show cmpI x 0 = 0 by rw [hx0]; rfl] at this
            exact this
          clear hx0 hd
          refine wtZ (x := x) (A3 := g1) (A10 := g10) CSg rfl rfl rfl (X1.c 0 rfl) X1.lt (X1.c 1 rfl) X1.lt (X1.c 2 rfl) X1.lt (X1.c 3 rfl) X1.lt rfl ?_
          rintro ⟨tm, df⟩ Wz hz hdf hoff h2 hBz
          simp only at hz hdf hoff h2
          change tm.getD 2 undef = .bool true at h2
          subst hdf
          have htm := tmps_fold [56, 57, 58, 59, 60, 61, 62, 63, 64, 65, 66, 67, 68, 69, 70, 2] tm _ hz hoff
          simp only [List.foldl, List.setIfInBounds_toArray, List.set_cons_zero, List.set_cons_succ, h2] at htm
          clear hz hoff
          generalize tm.getD 56 undef = u0, tm.getD 57 undef = u1, tm.getD 58 undef = u2, tm.getD 59 undef = u3, tm.getD 60 undef = u4, tm.getD 61 undef = u5, tm.getD 62 undef = u6, tm.getD 63 undef = u7, tm.getD 64 undef = u8, tm.getD 65 undef = u9, tm.getD 66 undef = u10, tm.getD 67 undef = u11, tm.getD 68 undef = u12, tm.getD 69 undef = u13, tm.getD 70 undef = u14 at htm
          clear h2
          subst htm
          go_wp2
          go_ret
          exact ⟨rfl, HB.trans (hBz.mono HB.size)⟩
        · obtain ⟨q, hq1, hq2, hq3⟩ := bits_ex x.natAbs
          have hq : q ≤ 1000 := by
            have h1 := of_decide_eq_true tx
            have := hq3 (by omega)
            omega
          have CB2 := fun w => bitsV tx hq1 w
          have CB1 := fun w => bitsV hd (b := q + 1) (by have := hq2 (by omega); rw [show (x + x).natAbs = 2 * x.natAbs by omega]; exact this) w
          have CSg := sign_det x tx
          have hsg : (cmpI x 0 == 0) = false := beq_eq_false_iff_ne.2 (by unfold cmpI; repeat' split; all_goals omega)
          generalize cmpI x 0 = sg at *
          clear hx0 hd hq1 hq2 hq3
          refine wtA (x := x) (sg := sg) (q := q) (A3 := g1) (A10 := g10) CSg CB1 CB2 hsg hq rfl rfl rfl (X1.c 0 rfl) X1.lt (X1.c 1 rfl) X1.lt (X1.c 2 rfl) X1.lt (X1.c 3 rfl) X1.lt (X5.c 0 rfl) X5.lt (X5.c 1 rfl) X5.lt (X5.c 2 rfl) X5.lt (X5.c 3 rfl) X5.lt rfl ?_
          rintro ⟨tm, df⟩ Wz hz hdf hoff h2 hBz
          simp only at hz hdf hoff h2
          change tm.getD 2 undef = .bool true at h2
          subst hdf
          have htm := tmps_fold [56, 57, 58, 59, 60, 61, 62, 63, 64, 65, 66, 67, 68, 69, 70, 2] tm _ hz hoff
          simp only [List.foldl, List.setIfInBounds_toArray, List.set_cons_zero, List.set_cons_succ, h2] at htm
          clear hz hoff
          generalize tm.getD 56 undef = u0, tm.getD 57 undef = u1, tm.getD 58 undef = u2, tm.getD 59 undef = u3, tm.getD 60 undef = u4, tm.getD 61 undef = u5, tm.getD 62 undef = u6, tm.getD 63 undef = u7, tm.getD 64 undef = u8, tm.getD 65 undef = u9, tm.getD 66 undef = u10, tm.getD 67 undef = u11, tm.getD 68 undef = u12, tm.getD 69 undef = u13, tm.getD 70 undef = u14 at htm
          clear h2
          subst htm
          go_wp2
          go_ret
          exact ⟨rfl, HB.trans (hBz.mono HB.size)⟩
end Go.Proofs.Ytnnojeggjnddpaa

/- What the row of a law asks of the program as a whole, each by itself. -/
namespace Go.Proofs.Ytnnojeggjnddpaa
open Go.ChangeShapes Go.WideShapes Go.ChangeAt Go.RowKit Go.Joins
theorem jn_laid : laidOutB Try.pinned.checked.prog = true := by kernel_rfl
theorem jn_maps : mapsRowed Try.pinned.checked.prog = true := by kernel_rfl
theorem jn_enter : Try.pinned.checked.prog.mayEnter = true := by kernel_rfl
theorem jn_heard : Try.pinned.checked.prog.stopsHeard = true := by kernel_rfl
end Go.Proofs.Ytnnojeggjnddpaa
