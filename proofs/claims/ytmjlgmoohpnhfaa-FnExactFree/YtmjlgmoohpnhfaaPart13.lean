/- Part 13 of the walks that the proof leans on. -/
import Derived.Test.YtmjlgmoohpnhfaaPart10
import Derived.Test.YtmjlgmoohpnhfaaPart12
import Derived.Test.YtmjlgmoohpnhfaaPart5
/- The drawn regions of the model's walk of a way. -/
namespace Go.Proofs.Ytmjlgmoohpnhfaa
open Go.RowKit
def VfrS (m ca A of k n cb A2 of2 i : Nat) (a b c d e f : Int) (_B : Nat) : Nat → Value → World → Prop
  | 0, v, _ => v = .slice (some ⟨A, of, none⟩) m ca
  | 1, v, _ => v = .int .i64 (k : Int)
  | 2, v, _ => v = .pointer (some ⟨A, of + k * 4, none⟩)
  | 3, v, _ => v = .agg #[.int .i64 a, .int .i64 b, .int .i64 c, .int .i64 d]
  | 4, v, _ => v = .slice (some ⟨A2, of2, none⟩) n cb
  | 5, v, _ => v = .int .i64 (i : Int)
  | 6, v, _ => v = .pointer (some ⟨A2, of2 + i * 2, none⟩)
  | 7, v, _ => v = .agg #[.int .i64 e, .int .i64 f]
  | 8, v, W => L3A W v e f 1
  | 9, v, _ => v = .bool (btwS a b 1 c d 1 e f 1)
  | _, _, _ => True
theorem VfrS.mono {m ca A of k n cb A2 of2 i : Nat} {a b c d e f : Int} {B j : Nat} {v : Value} {W W2 : World} (hB : Below W.heap.size W W2) (h : VfrS m ca A of k n cb A2 of2 i a b c d e f B j v W) : VfrS m ca A of k n cb A2 of2 i a b c d e f B j v W2 := by
  unfold VfrS at *
  split <;> simp only at h <;> first | exact h | (obtain ⟨s1, o1, n1, c1, d1, s2, o2, n2, c2, d2, s3, o3, n3, c3, d3, e0, N1, N2, N3⟩ := h; exact ⟨s1, o1, n1, c1, d1, s2, o2, n2, c2, d2, s3, o3, n3, c3, d3, e0, N1.step hB, N2.step hB, N3.step hB⟩) | trivial
set_option maxRecDepth 100000 in
set_option maxHeartbeats 4000000 in
theorem frS {Q : Exit → Act → World → Prop} {m ca A of k n cb A2 of2 i : Nat} {a b c d e f : Int}  {w0 : World} {a0 : Act} {idq : Nat} {t0 t1 t2 t3 t4 t5 t6 t7 t8 t9 : TypeId} {q0 q1 q2 q3 q4 q5 q6 q7 q8 q9 : String}
    (hk : k < m) (hm : m ≤ 40) (hi : i < n) (hn : n ≤ 12) (ia : -1000000 ≤ a ∧ a ≤ 1000000) (ib : -1000000 ≤ b ∧ b ≤ 1000000) (ic : -1000000 ≤ c ∧ c ≤ 1000000) (id : -1000000 ≤ d ∧ d ≤ 1000000) (ie : -1000000 ≤ e ∧ e ≤ 1000000) (ig : -1000000 ≤ f ∧ f ≤ 1000000) (h0 : a0.tmps[0]? = some (.slice (some ⟨A, of, none⟩) m ca)) (h6 : a0.tmps[6]? = some (.int .i64 (k : Int))) (h1 : a0.tmps[1]? = some (.slice (some ⟨A2, of2, none⟩) n cb)) (h5 : a0.tmps[5]? = some (.int .i64 (i : Int))) (k0 : w0.cell? ⟨A, of + k * 4, none⟩ = some (.int .i64 a)) (l0 : (⟨A, of + k * 4, none⟩ : Addr).block < w0.heap.size) (k1 : w0.cell? ⟨A, of + k * 4 + 1, none⟩ = some (.int .i64 b)) (l1 : (⟨A, of + k * 4 + 1, none⟩ : Addr).block < w0.heap.size) (k2 : w0.cell? ⟨A, of + k * 4 + 2, none⟩ = some (.int .i64 c)) (l2 : (⟨A, of + k * 4 + 2, none⟩ : Addr).block < w0.heap.size) (k3 : w0.cell? ⟨A, of + k * 4 + 3, none⟩ = some (.int .i64 d)) (l3 : (⟨A, of + k * 4 + 3, none⟩ : Addr).block < w0.heap.size) (k4 : w0.cell? ⟨A2, of2 + i * 2, none⟩ = some (.int .i64 e)) (l4 : (⟨A2, of2 + i * 2, none⟩ : Addr).block < w0.heap.size) (k5 : w0.cell? ⟨A2, of2 + i * 2 + 1, none⟩ = some (.int .i64 f)) (l5 : (⟨A2, of2 + i * 2 + 1, none⟩ : Addr).block < w0.heap.size) (hz : a0.tmps.size = 79)
    (hQ : ∀ aq W, aq.tmps.size = a0.tmps.size → aq.defers = a0.defers → (∀ e, e ∉ ([32, 33, 34, 35, 36, 37, 38, 39, 40, 41] : List Nat) → aq.tmps[e]? = a0.tmps[e]?) → VfrS m ca A of k n cb A2 of2 i a b c d e f w0.heap.size 9 (aq.tmps.getD 41 undef) W → Below w0.heap.size w0 W → Q .normal aq W) :
    (Code.region idq #[{ dst := some 32, op := Op.move (Operand.tmp 0), type := t0, pos := q0, after := #[], guard := none },
    { dst := some 33, op := Op.move (Operand.tmp 6), type := t1, pos := q1, after := #[], guard := none },
    { dst := some 34, op := Op.indexAddr 53 (Operand.tmp 32) (Operand.tmp 33), type := t2, pos := q2, after := #[{ on := 0, ground := Ground.data }, { on := 1, ground := Ground.data }], guard := none },
    { dst := some 35, op := Op.load 103 (Operand.tmp 34), type := t3, pos := q3, after := #[{ on := 2, ground := Ground.data }], guard := none },
    { dst := some 36, op := Op.move (Operand.tmp 1), type := t4, pos := q4, after := #[], guard := none },
    { dst := some 37, op := Op.move (Operand.tmp 5), type := t5, pos := q5, after := #[], guard := none },
    { dst := some 38, op := Op.indexAddr 26 (Operand.tmp 36) (Operand.tmp 37), type := t6, pos := q6, after := #[{ on := 4, ground := Ground.data }, { on := 5, ground := Ground.data }], guard := none },
    { dst := some 39, op := Op.load 55 (Operand.tmp 38), type := t7, pos := q7, after := #[{ on := 6, ground := Ground.data }], guard := none },
    { dst := some 40, op := Op.call { callee := Callee.value (Operand.func 70), args := #[Operand.tmp 39], argTypes := #[55] }, type := t8, pos := q8, after := #[{ on := 7, ground := Ground.data }], guard := none },
    { dst := some 41, op := Op.call { callee := Callee.value (Operand.func 69), args := #[Operand.tmp 35, Operand.tmp 40], argTypes := #[103, 91] }, type := t9, pos := q9, after := #[{ on := 3, ground := Ground.data }, { on := 8, ground := Ground.data }, { on := 8, ground := Ground.chain }], guard := none }] true).wp Try.prog Q a0 w0 := by
  have hS : distS [some 32, some 33, some 34, some 35, some 36, some 37, some 38, some 39, some 40, some 41] = true := rfl
  refine wp_region_q (by kernel_rfl) w0.heap.size [some 32, some 33, some 34, some 35, some 36, some 37, some 38, some 39, some 40, some 41] (VfrS m ca A of k n cb A2 of2 i a b c d e f w0.heap.size) rfl ?_ ?_
  · intro Q lq aq W iq oq hJ hl ho hall
    have hJ2 := hJ
    obtain ⟨z1, z2, z3, z4, z5, z6, z7⟩ := hJ
    have g0 : aq.tmps.getD 0 undef = .slice (some ⟨A, of, none⟩) m ca := by rw [Array.getD_eq_getD_getElem?, z4 0 (by decide), h0]; rfl
    have g6 : aq.tmps.getD 6 undef = .int .i64 (k : Int) := by rw [Array.getD_eq_getD_getElem?, z4 6 (by decide), h6]; rfl
    have g1 : aq.tmps.getD 1 undef = .slice (some ⟨A2, of2, none⟩) n cb := by rw [Array.getD_eq_getD_getElem?, z4 1 (by decide), h1]; rfl
    have g5 : aq.tmps.getD 5 undef = .int .i64 (i : Int) := by rw [Array.getD_eq_getD_getElem?, z4 5 (by decide), h5]; rfl
    have c0 : W.cell? ⟨A, of + k * 4, none⟩ = some (.int .i64 a) := (z5.cell l0).trans k0
    have c1 : W.cell? ⟨A, of + k * 4 + 1, none⟩ = some (.int .i64 b) := (z5.cell l1).trans k1
    have c2 : W.cell? ⟨A, of + k * 4 + 2, none⟩ = some (.int .i64 c) := (z5.cell l2).trans k2
    have c3 : W.cell? ⟨A, of + k * 4 + 3, none⟩ = some (.int .i64 d) := (z5.cell l3).trans k3
    have c4 : W.cell? ⟨A2, of2 + i * 2, none⟩ = some (.int .i64 e) := (z5.cell l4).trans k4
    have c5 : W.cell? ⟨A2, of2 + i * 2 + 1, none⟩ = some (.int .i64 f) := (z5.cell l5).trans k5
    match iq, ho with
    | 0, ho =>
      cases ho
      refine wpOp_of rfl rfl ?_
      have hK := fun (v : Value) (W2 : World) hW hT hv => hJ2.put hS 0 32 rfl (by omega) (W' := W2) hW hT v hv
      clear ho hall hl hQ
      generalize InvQ w0.heap.size [some 32, some 33, some 34, some 35, some 36, some 37, some 38, some 39, some 40, some 41] (VfrS m ca A of k n cb A2 of2 i a b c d e f w0.heap.size) w0 a0 (lq.setIfInBounds 0 true) = K at hK ⊢
      clear hJ2 hS z1 z2 z3 z4 z6 z7
      go_simp
      exact hK _ _ z5 (fun _ _ h => h) rfl
    | 1, ho =>
      cases ho
      refine wpOp_of rfl rfl ?_
      have hK := fun (v : Value) (W2 : World) hW hT hv => hJ2.put hS 1 33 rfl (by omega) (W' := W2) hW hT v hv
      clear ho hall hl hQ
      generalize InvQ w0.heap.size [some 32, some 33, some 34, some 35, some 36, some 37, some 38, some 39, some 40, some 41] (VfrS m ca A of k n cb A2 of2 i a b c d e f w0.heap.size) w0 a0 (lq.setIfInBounds 1 true) = K at hK ⊢
      clear hJ2 hS z1 z2 z3 z4 z6 z7
      go_simp
      exact hK _ _ z5 (fun _ _ h => h) rfl
    | 2, ho =>
      cases ho
      refine wpOp_of rfl rfl ?_
      have f0 : (aq.tmps.getD 32 undef) = .slice (some ⟨A, of, none⟩) m ca := z6 0 32 (hall { on := 0, ground := Ground.data } (by simp) rfl) rfl
      have f1 : (aq.tmps.getD 33 undef) = .int .i64 (k : Int) := z6 1 33 (hall { on := 1, ground := Ground.data } (by simp) rfl) rfl
      have hkI : (k : Int) < m := by omega
      have hmI : (m : Int) ≤ 40 := by omega
      have hK := fun (v : Value) (W2 : World) hW hT hv => hJ2.put hS 2 34 rfl (by omega) (W' := W2) hW hT v hv
      clear ho hall hl hQ
      generalize InvQ w0.heap.size [some 32, some 33, some 34, some 35, some 36, some 37, some 38, some 39, some 40, some 41] (VfrS m ca A of k n cb A2 of2 i a b c d e f w0.heap.size) w0 a0 (lq.setIfInBounds 2 true) = K at hK ⊢
      clear hJ2 hS z1 z2 z3 z4 z6 z7
      go_simp
      exact hK _ _ z5 (fun _ _ h => h) rfl
    | 3, ho =>
      cases ho
      refine wpOp_of rfl rfl ?_
      have f2 : (aq.tmps.getD 34 undef) = .pointer (some ⟨A, of + k * 4, none⟩) := z6 2 34 (hall { on := 2, ground := Ground.data } (by simp) rfl) rfl
      have hK := fun (v : Value) (W2 : World) hW hT hv => hJ2.put hS 3 35 rfl (by omega) (W' := W2) hW hT v hv
      clear ho hall hl hQ
      generalize InvQ w0.heap.size [some 32, some 33, some 34, some 35, some 36, some 37, some 38, some 39, some 40, some 41] (VfrS m ca A of k n cb A2 of2 i a b c d e f w0.heap.size) w0 a0 (lq.setIfInBounds 3 true) = K at hK ⊢
      clear hJ2 hS z1 z2 z3 z4 z6 z7
      go_simp
      exact hK _ _ z5 (fun _ _ h => h) rfl
    | 4, ho =>
      cases ho
      refine wpOp_of rfl rfl ?_
      have hK := fun (v : Value) (W2 : World) hW hT hv => hJ2.put hS 4 36 rfl (by omega) (W' := W2) hW hT v hv
      clear ho hall hl hQ
      generalize InvQ w0.heap.size [some 32, some 33, some 34, some 35, some 36, some 37, some 38, some 39, some 40, some 41] (VfrS m ca A of k n cb A2 of2 i a b c d e f w0.heap.size) w0 a0 (lq.setIfInBounds 4 true) = K at hK ⊢
      clear hJ2 hS z1 z2 z3 z4 z6 z7
      go_simp
      exact hK _ _ z5 (fun _ _ h => h) rfl
    | 5, ho =>
      cases ho
      refine wpOp_of rfl rfl ?_
      have hK := fun (v : Value) (W2 : World) hW hT hv => hJ2.put hS 5 37 rfl (by omega) (W' := W2) hW hT v hv
      clear ho hall hl hQ
      generalize InvQ w0.heap.size [some 32, some 33, some 34, some 35, some 36, some 37, some 38, some 39, some 40, some 41] (VfrS m ca A of k n cb A2 of2 i a b c d e f w0.heap.size) w0 a0 (lq.setIfInBounds 5 true) = K at hK ⊢
      clear hJ2 hS z1 z2 z3 z4 z6 z7
      go_simp
      exact hK _ _ z5 (fun _ _ h => h) rfl
    | 6, ho =>
      cases ho
      refine wpOp_of rfl rfl ?_
      have f4 : (aq.tmps.getD 36 undef) = .slice (some ⟨A2, of2, none⟩) n cb := z6 4 36 (hall { on := 4, ground := Ground.data } (by simp) rfl) rfl
      have f5 : (aq.tmps.getD 37 undef) = .int .i64 (i : Int) := z6 5 37 (hall { on := 5, ground := Ground.data } (by simp) rfl) rfl
      have hiI : (i : Int) < n := by omega
      have hnI : (n : Int) ≤ 12 := by omega
      have hK := fun (v : Value) (W2 : World) hW hT hv => hJ2.put hS 6 38 rfl (by omega) (W' := W2) hW hT v hv
      clear ho hall hl hQ
      generalize InvQ w0.heap.size [some 32, some 33, some 34, some 35, some 36, some 37, some 38, some 39, some 40, some 41] (VfrS m ca A of k n cb A2 of2 i a b c d e f w0.heap.size) w0 a0 (lq.setIfInBounds 6 true) = K at hK ⊢
      clear hJ2 hS z1 z2 z3 z4 z6 z7
      go_simp
      exact hK _ _ z5 (fun _ _ h => h) rfl
    | 7, ho =>
      cases ho
      refine wpOp_of rfl rfl ?_
      have f6 : (aq.tmps.getD 38 undef) = .pointer (some ⟨A2, of2 + i * 2, none⟩) := z6 6 38 (hall { on := 6, ground := Ground.data } (by simp) rfl) rfl
      have hK := fun (v : Value) (W2 : World) hW hT hv => hJ2.put hS 7 39 rfl (by omega) (W' := W2) hW hT v hv
      clear ho hall hl hQ
      generalize InvQ w0.heap.size [some 32, some 33, some 34, some 35, some 36, some 37, some 38, some 39, some 40, some 41] (VfrS m ca A of k n cb A2 of2 i a b c d e f w0.heap.size) w0 a0 (lq.setIfInBounds 7 true) = K at hK ⊢
      clear hJ2 hS z1 z2 z3 z4 z6 z7
      go_simp
      exact hK _ _ z5 (fun _ _ h => h) rfl
    | 8, ho =>
      cases ho
      refine wpOp_of rfl rfl ?_
      have f7 : (aq.tmps.getD 39 undef) = .agg #[.int .i64 e, .int .i64 f] := z6 7 39 (hall { on := 7, ground := Ground.data } (by simp) rfl) rfl
      have hK := fun (v : Value) (W2 : World) hW hT hv => hJ2.put hS 8 40 rfl (by omega) (W' := W2) hW hT v hv
      clear ho hall hl hQ
      generalize InvQ w0.heap.size [some 32, some 33, some 34, some 35, some 36, some 37, some 38, some 39, some 40, some 41] (VfrS m ca A of k n cb A2 of2 i a b c d e f w0.heap.size) w0 a0 (lq.setIfInBounds 8 true) = K at hK ⊢
      clear hJ2 hS z1 z2 z3 z4 z6 z7
      go_simp
      refine (l3Spot_det e f ie ig W).mono ?_
      rintro e1 v1 ⟨s1, o1, n1, m1, e2, s2, o2, n2, m2, e3, s3, o3, n3, m3, e4, rfl, N1, N2, N3, hBv⟩
      exact hK _ _ (z5.trans (hBv.mono z5.size)) (fun _ _ h => h.mono hBv) ⟨_, _, _, _, _, _, _, _, _, _, _, _, _, _, _, rfl, N1, N2, N3⟩
    | 9, ho =>
      cases ho
      refine wpOp_of rfl rfl ?_
      have f3 : (aq.tmps.getD 35 undef) = .agg #[.int .i64 a, .int .i64 b, .int .i64 c, .int .i64 d] := z6 3 35 (hall { on := 3, ground := Ground.data } (by simp) rfl) rfl
      have f8 : L3A W (aq.tmps.getD 40 undef) e f 1 := z6 8 40 (hall { on := 8, ground := Ground.data } (by simp) rfl) rfl
      obtain ⟨as1, ao1, an1, ac1, ad1, as2, ao2, an2, ac2, ad2, as3, ao3, an3, ac3, ad3, ae, A1, A22, A3⟩ := f8
      have hK := fun (v : Value) (W2 : World) hW hT hv => hJ2.put hS 9 41 rfl (by omega) (W' := W2) hW hT v hv
      clear ho hall hl hQ
      generalize InvQ w0.heap.size [some 32, some 33, some 34, some 35, some 36, some 37, some 38, some 39, some 40, some 41] (VfrS m ca A of k n cb A2 of2 i a b c d e f w0.heap.size) w0 a0 (lq.setIfInBounds 9 true) = K at hK ⊢
      clear hJ2 hS z1 z2 z3 z4 z6 z7
      go_simp
      refine (l4On_any as1 as2 as3 ao1 ao2 ao3 an1 ac1 an2 ac2 an3 ac3 ad1 ad2 ad3 a b c d e f 1 ia ib ic id W A1 A22 A3).mono ?_
      rintro e1 v1 ⟨rfl, hBv⟩
      exact hK _ _ (z5.trans (hBv.mono z5.size)) (fun _ _ h => h.mono hBv) rfl
    | iq + 10, ho => simp at ho
  · intro lq aq W hJ hr
    obtain ⟨z1, z2, z3, z4, z5, z6, z7⟩ := hJ
    have hl := listed_of hr [0, 1, 2, 3, 4, 5, 6, 7, 8, 9] [] (by simp) (by kernel_rfl) (by rw [z1]; decide)
    exact hQ aq W z2 z3 (fun e he => z4 e (by simpa using he)) (z6 9 41 (hl 9 (by simp)) rfl) z5

def VfrT (_B4 : Nat) (n cb A2 of2 i jn : Nat) (ex ey gx gy a b c d : Int) (k : Bool) (_B : Nat) : Nat → Value → World → Prop
  | 0, v, _ => v = .slice (some ⟨A2, of2, none⟩) n cb
  | 1, v, _ => v = .int .i64 (i : Int)
  | 2, v, _ => v = .pointer (some ⟨A2, of2 + i * 2, none⟩)
  | 3, v, _ => v = .agg #[.int .i64 ex, .int .i64 ey]
  | 4, v, _ => v = .slice (some ⟨A2, of2, none⟩) n cb
  | 5, v, _ => v = .int .i64 (i : Int)
  | 6, v, _ => v = .int .i64 ((i : Int) + 1)
  | 7, v, _ => v = .slice (some ⟨A2, of2, none⟩) n cb
  | 8, v, _ => v = .int .i64 (n : Int)
  | 9, v, _ => v = .int .i64 (jn : Int)
  | 10, v, _ => v = .pointer (some ⟨A2, of2 + jn * 2, none⟩)
  | 11, v, _ => v = .agg #[.int .i64 gx, .int .i64 gy]
  | 12, v, _ => v = .tuple #[.agg #[.int .i64 a, .int .i64 b, .int .i64 c, .int .i64 d], .bool k]
  | 13, v, _ => v = .tuple #[.agg #[.int .i64 a, .int .i64 b, .int .i64 c, .int .i64 d], .bool k]
  | 14, v, _ => v = .agg #[.int .i64 a, .int .i64 b, .int .i64 c, .int .i64 d]
  | 15, v, _ => v = .bool k
  | 18, v, _ => v = .bool k
  | _, _, _ => True
theorem VfrT.mono {B4 : Nat} {n cb A2 of2 i jn : Nat} {ex ey gx gy a b c d : Int} {k : Bool} {B j : Nat} {v : Value} {W W2 : World} (_hB : Below W.heap.size W W2) (h : VfrT B4 n cb A2 of2 i jn ex ey gx gy a b c d k B j v W) : VfrT B4 n cb A2 of2 i jn ex ey gx gy a b c d k B j v W2 := by
  unfold VfrT at *
  split <;> simp only at h <;> first | exact h | trivial
theorem VfrT.same {B4 : Nat} {n cb A2 of2 i jn : Nat} {ex ey gx gy a b c d : Int} {k : Bool} {B j2 : Nat} {v : Value} {W W2 : World} (h : VfrT B4 n cb A2 of2 i jn ex ey gx gy a b c d k B j2 v W) : VfrT B4 n cb A2 of2 i jn ex ey gx gy a b c d k B j2 v W2 := by
  unfold VfrT at *
  split <;> simp only at h <;> first | exact h | trivial
theorem getD_listedL {l : Array Bool} {i : Nat} (h : l.getD i true = false) : l.getD i false = false := by
  rcases Nat.lt_or_ge i l.size with h' | h'
  · simpa [Array.getD, h'] using h
  · simp [Array.getD, Nat.not_lt.2 h'] at h
def SfrT (B4 : Nat) (_n _cb _A2 _of2 _i _jn : Nat) (_ex _ey _gx _gy a b c d : Int) (_k : Bool) (lz : Array Bool) (az : Act) (W : World) : Prop := (lz.getD 17 false = true → lz.getD 16 false = true) ∧ (lz.getD 16 false = true → ∃ gz, az.tmps.getD 7 undef = .pointer (some ⟨gz, 0, none⟩) ∧ B4 ≤ gz ∧ (∃ z0 z1 z2 z3, Blk W gz [z0, z1, z2, z3]) ∧ (lz.getD 17 false = true → Blk W gz [.int .i64 a, .int .i64 b, .int .i64 c, .int .i64 d]))
theorem SfrT.quiet {B4 : Nat} {n cb A2 of2 i jn : Nat} {ex ey gx gy a b c d : Int} {k : Bool} {lz : Array Bool} {az : Act} {W : World} (h : SfrT B4 n cb A2 of2 i jn ex ey gx gy a b c d k lz az W) (i2 d2 : Nat) (v : Value) (hi : i2 ≠ 16 ∧ i2 ≠ 17) (hd : d2 ≠ 7) : SfrT B4 n cb A2 of2 i jn ex ey gx gy a b c d k (lz.setIfInBounds i2 true) (az.put (some d2) v) W := by
  obtain ⟨h2, h3⟩ := h
  refine ⟨fun hl => ?_, fun hl => ?_⟩
  · rw [getD_set_ne false hi.2] at hl
    rw [getD_set_ne false hi.1]
    exact h2 hl
  · rw [getD_set_ne false hi.1] at hl
    obtain ⟨gz, e1, e2, e3, e4⟩ := h3 hl
    exact ⟨gz, by rw [put_getD_ne hd]; exact e1, e2, e3, fun h => e4 (by rw [getD_set_ne false hi.2] at h; exact h)⟩
theorem SfrT.step {B4 : Nat} {n cb A2 of2 i jn : Nat} {ex ey gx gy a b c d : Int} {k : Bool} {lz : Array Bool} {az : Act} {W W2 : World} (h : SfrT B4 n cb A2 of2 i jn ex ey gx gy a b c d k lz az W) (hB : Below W.heap.size W W2) : SfrT B4 n cb A2 of2 i jn ex ey gx gy a b c d k lz az W2 := by
  obtain ⟨h2, h3⟩ := h
  refine ⟨h2, fun hl => ?_⟩
  obtain ⟨gz, e1, e2, ⟨z0, z1, z2, z3, e3⟩, e4⟩ := h3 hl
  exact ⟨gz, e1, e2, ⟨_, _, _, _, e3.step hB⟩, fun h => (e4 h).step hB⟩
theorem SfrT.al {B4 : Nat} {n cb A2 of2 i jn : Nat} {ex ey gx gy a b c d : Int} {k : Bool} {lz : Array Bool} {az : Act} {W : World} (h : SfrT B4 n cb A2 of2 i jn ex ey gx gy a b c d k lz az W) (hn : lz.getD 16 true = false) {gz : Nat} (hs : 7 < az.tmps.size) (hz : B4 ≤ gz) (hb : Blk W gz [.int .i64 0, .int .i64 0, .int .i64 0, .int .i64 0]) : SfrT B4 n cb A2 of2 i jn ex ey gx gy a b c d k (lz.setIfInBounds 16 true) (az.put (some 7) (.pointer (some ⟨gz, 0, none⟩))) W := by
  obtain ⟨h2, h3⟩ := h
  have hn' : lz.getD 16 false = false := getD_listedL hn
  refine ⟨fun hl => ?_, fun _ => ⟨gz, put_getD_same hs, hz, ⟨_, _, _, _, hb⟩, fun hl => ?_⟩⟩
  · rw [getD_set_ne false (by decide)] at hl
    rw [h2 hl] at hn'
    cases hn'
  · rw [getD_set_ne false (by decide)] at hl
    rw [h2 hl] at hn'
    cases hn'
theorem SfrT.st {B4 : Nat} {n cb A2 of2 i jn : Nat} {ex ey gx gy a b c d : Int} {k : Bool} {lz : Array Bool} {az : Act} {W2 : World} (h9 : lz.getD 16 false = true) {gz : Nat} (e1 : az.tmps.getD 7 undef = .pointer (some ⟨gz, 0, none⟩)) (e2 : B4 ≤ gz) (hb : Blk W2 gz [.int .i64 a, .int .i64 b, .int .i64 c, .int .i64 d]) : SfrT B4 n cb A2 of2 i jn ex ey gx gy a b c d k (lz.setIfInBounds 17 true) az W2 := by
  refine ⟨fun _ => ?_, fun _ => ⟨gz, e1, e2, ⟨_, _, _, _, hb⟩, fun _ => hb⟩⟩
  rw [getD_set_ne false (by decide)]; exact h9

def JfrT (B4 : Nat) (n cb A2 of2 i jn : Nat) (ex ey gx gy a b c d : Int) (k : Bool) (w0 : World) (a0 : Act) (lz : Array Bool) (az : Act) (W : World) : Prop := InvQ (w0.heap.size) [some 43, some 44, some 45, some 46, some 47, some 48, some 49, some 50, some 51, some 52, some 53, some 54, some 55, some 42, some 56, some 57, some 7, none, some 8] (VfrT B4 n cb A2 of2 i jn ex ey gx gy a b c d k (w0.heap.size)) w0 a0 lz az W ∧ SfrT B4 n cb A2 of2 i jn ex ey gx gy a b c d k lz az W
set_option maxRecDepth 100000 in
set_option maxHeartbeats 4000000 in
theorem frT {Q : Exit → Act → World → Prop} {B4 : Nat} {n cb A2 of2 i jn : Nat} {ex ey gx gy a b c d : Int} {k : Bool}  {w0 : World} {a0 : Act} {idq : Nat} {t0 t1 t2 t3 t4 t5 t6 t7 t8 t9 t10 t11 t12 t13 t14 t15 t16 t17 t18 : TypeId} {q0 q1 q2 q3 q4 q5 q6 q7 q8 q9 q10 q11 q12 q13 q14 q15 q16 q17 q18 : String}
    (hB4 : B4 = w0.heap.size) (hi : i < n) (hn : n ≤ 12) (hj : Hid (jn = (i + 1) % n)) (hjn : jn < n) (hSO : ∀ w, Calls Try.prog 71 #[.agg #[.int .i64 ex, .int .i64 ey], .agg #[.int .i64 gx, .int .i64 gy]] w (VP (.tuple #[.agg #[.int .i64 a, .int .i64 b, .int .i64 c, .int .i64 d], .bool k]) w)) (h1 : a0.tmps[1]? = some (.slice (some ⟨A2, of2, none⟩) n cb)) (h5 : a0.tmps[5]? = some (.int .i64 (i : Int))) (k0 : w0.cell? ⟨A2, of2 + i * 2, none⟩ = some (.int .i64 ex)) (l0 : (⟨A2, of2 + i * 2, none⟩ : Addr).block < w0.heap.size) (k1 : w0.cell? ⟨A2, of2 + i * 2 + 1, none⟩ = some (.int .i64 ey)) (l1 : (⟨A2, of2 + i * 2 + 1, none⟩ : Addr).block < w0.heap.size) (k2 : w0.cell? ⟨A2, of2 + jn * 2, none⟩ = some (.int .i64 gx)) (l2 : (⟨A2, of2 + jn * 2, none⟩ : Addr).block < w0.heap.size) (k3 : w0.cell? ⟨A2, of2 + jn * 2 + 1, none⟩ = some (.int .i64 gy)) (l3 : (⟨A2, of2 + jn * 2 + 1, none⟩ : Addr).block < w0.heap.size) (hz : a0.tmps.size = 79)
    (hQ : ∀ aq W, aq.tmps.size = a0.tmps.size → aq.defers = a0.defers → (∀ e, e ∉ ([43, 44, 45, 46, 47, 48, 49, 50, 51, 52, 53, 54, 55, 42, 56, 57, 7, 8] : List Nat) → aq.tmps[e]? = a0.tmps[e]?) → VfrT B4 n cb A2 of2 i jn ex ey gx gy a b c d k (w0.heap.size) 17 undef W → VfrT B4 n cb A2 of2 i jn ex ey gx gy a b c d k (w0.heap.size) 18 (aq.tmps.getD 8 undef) W → Below (w0.heap.size) w0 W → (∃ gz, aq.tmps.getD 7 undef = .pointer (some ⟨gz, 0, none⟩) ∧ w0.heap.size ≤ gz ∧ Blk W gz [.int .i64 a, .int .i64 b, .int .i64 c, .int .i64 d]) → Q .normal aq W) :
    (Code.region idq #[{ dst := some 43, op := Op.move (Operand.tmp 1), type := t0, pos := q0, after := #[], guard := none },
    { dst := some 44, op := Op.move (Operand.tmp 5), type := t1, pos := q1, after := #[], guard := none },
    { dst := some 45, op := Op.indexAddr 26 (Operand.tmp 43) (Operand.tmp 44), type := t2, pos := q2, after := #[{ on := 0, ground := Ground.data }, { on := 1, ground := Ground.data }], guard := none },
    { dst := some 46, op := Op.load 55 (Operand.tmp 45), type := t3, pos := q3, after := #[{ on := 2, ground := Ground.data }], guard := none },
    { dst := some 47, op := Op.move (Operand.tmp 1), type := t4, pos := q4, after := #[], guard := none },
    { dst := some 48, op := Op.move (Operand.tmp 5), type := t5, pos := q5, after := #[], guard := none },
    { dst := some 49, op := Op.binOp BinOp.add 3 (Operand.tmp 48) (Operand.const (Value.int IntKind.i64 1)) 3, type := t6, pos := q6, after := #[{ on := 5, ground := Ground.data }], guard := none },
    { dst := some 50, op := Op.move (Operand.tmp 1), type := t7, pos := q7, after := #[], guard := none },
    { dst := some 51, op := Op.call { callee := Callee.builtin Builtin.len, args := #[Operand.tmp 50], argTypes := #[26] }, type := t8, pos := q8, after := #[{ on := 7, ground := Ground.data }], guard := none },
    { dst := some 52, op := Op.binOp BinOp.rem 3 (Operand.tmp 49) (Operand.tmp 51) 3, type := t9, pos := q9, after := #[{ on := 6, ground := Ground.data }, { on := 8, ground := Ground.data }], guard := none },
    { dst := some 53, op := Op.indexAddr 26 (Operand.tmp 47) (Operand.tmp 52), type := t10, pos := q10, after := #[{ on := 4, ground := Ground.data }, { on := 9, ground := Ground.data }], guard := none },
    { dst := some 54, op := Op.load 55 (Operand.tmp 53), type := t11, pos := q11, after := #[{ on := 10, ground := Ground.data }], guard := none },
    { dst := some 55, op := Op.call { callee := Callee.value (Operand.func 71), args := #[Operand.tmp 46, Operand.tmp 54], argTypes := #[55, 55] }, type := t12, pos := q12, after := #[{ on := 3, ground := Ground.data }, { on := 11, ground := Ground.data }], guard := none },
    { dst := some 42, op := Op.move (Operand.tmp 55), type := t13, pos := q13, after := #[{ on := 12, ground := Ground.data }], guard := none },
    { dst := some 56, op := Op.extract (Operand.tmp 42) 0, type := t14, pos := q14, after := #[{ on := 13, ground := Ground.data }], guard := none },
    { dst := some 57, op := Op.extract (Operand.tmp 42) 1, type := t15, pos := q15, after := #[{ on := 13, ground := Ground.data }, { on := 17, ground := Ground.gcOnly Departure.lateStores }], guard := none },
    { dst := some 7, op := Op.alloc 103, type := t16, pos := q16, after := #[], guard := none },
    { dst := none, op := Op.store 103 (Operand.tmp 7) (Operand.tmp 56), type := t17, pos := q17, after := #[{ on := 16, ground := Ground.data }, { on := 14, ground := Ground.data }, { on := 12, ground := Ground.chain }, { on := 0, ground := Ground.phase }, { on := 1, ground := Ground.phase }, { on := 2, ground := Ground.phase }, { on := 3, ground := Ground.phase }, { on := 4, ground := Ground.phase }, { on := 5, ground := Ground.phase }, { on := 6, ground := Ground.phase }, { on := 7, ground := Ground.phase }, { on := 8, ground := Ground.phase }, { on := 9, ground := Ground.phase }, { on := 10, ground := Ground.phase }, { on := 11, ground := Ground.phase }, { on := 12, ground := Ground.phase }, { on := 13, ground := Ground.phase }, { on := 14, ground := Ground.phase }, { on := 15, ground := Ground.textOnly Departure.lateStores }, { on := 16, ground := Ground.phase }], guard := none },
    { dst := some 8, op := Op.assign (Operand.tmp 57), type := t18, pos := q18, after := #[{ on := 15, ground := Ground.data }, { on := 17, ground := Ground.chain }, { on := 0, ground := Ground.phase }, { on := 1, ground := Ground.phase }, { on := 2, ground := Ground.phase }, { on := 3, ground := Ground.phase }, { on := 4, ground := Ground.phase }, { on := 5, ground := Ground.phase }, { on := 6, ground := Ground.phase }, { on := 7, ground := Ground.phase }, { on := 8, ground := Ground.phase }, { on := 9, ground := Ground.phase }, { on := 10, ground := Ground.phase }, { on := 11, ground := Ground.phase }, { on := 12, ground := Ground.phase }, { on := 13, ground := Ground.phase }, { on := 14, ground := Ground.phase }, { on := 15, ground := Ground.phase }, { on := 16, ground := Ground.phase }, { on := 17, ground := Ground.phase }], guard := none }] true).wp Try.prog Q a0 w0 := by
  have hS : distS [some 43, some 44, some 45, some 46, some 47, some 48, some 49, some 50, some 51, some 52, some 53, some 54, some 55, some 42, some 56, some 57, some 7, none, some 8] = true := rfl
  refine wp_region_inv (by kernel_rfl) (JfrT B4 n cb A2 of2 i jn ex ey gx gy a b c d k w0 a0) ⟨⟨rfl, rfl, rfl, fun _ _ => rfl, (Below.refl _ w0).drew, fun j d hj => ?_, fun j hj => ?_⟩, ⟨fun h => by exfalso; rw [Array.getD_eq_getD_getElem?, Array.getElem?_replicate] at h; split at h <;> simp at h, fun h => by exfalso; rw [Array.getD_eq_getD_getElem?, Array.getElem?_replicate] at h; split at h <;> simp at h⟩⟩ ?_ ?_
  · exfalso
    rw [Array.getD_eq_getD_getElem?, Array.getElem?_replicate] at hj
    split at hj <;> simp at hj
  · exfalso
    rw [Array.getD_eq_getD_getElem?, Array.getElem?_replicate] at hj
    split at hj <;> simp at hj
  · intro lq aq W iq oq ⟨hJ, hs⟩ hl ho hall
    have hJ2 := hJ
    obtain ⟨z1, z2, z3, z4, z5, z6, z7⟩ := hJ
    have g1 : aq.tmps.getD 1 undef = .slice (some ⟨A2, of2, none⟩) n cb := by rw [Array.getD_eq_getD_getElem?, z4 1 (by decide), h1]; rfl
    have g5 : aq.tmps.getD 5 undef = .int .i64 (i : Int) := by rw [Array.getD_eq_getD_getElem?, z4 5 (by decide), h5]; rfl
    have c0 : W.cell? ⟨A2, of2 + i * 2, none⟩ = some (.int .i64 ex) := (z5.cell l0).trans k0
    have c1 : W.cell? ⟨A2, of2 + i * 2 + 1, none⟩ = some (.int .i64 ey) := (z5.cell l1).trans k1
    have c2 : W.cell? ⟨A2, of2 + jn * 2, none⟩ = some (.int .i64 gx) := (z5.cell l2).trans k2
    have c3 : W.cell? ⟨A2, of2 + jn * 2 + 1, none⟩ = some (.int .i64 gy) := (z5.cell l3).trans k3
    match iq, ho with
    | 0, ho =>
      cases ho
      refine wpOp_of rfl rfl ?_
      have hK := fun (v : Value) (W2 : World) hW hT hv (hs : SfrT B4 n cb A2 of2 i jn ex ey gx gy a b c d k (lq.setIfInBounds 0 true) (aq.put (some 43) v) W2) => show (JfrT B4 n cb A2 of2 i jn ex ey gx gy a b c d k w0 a0) (lq.setIfInBounds 0 true) (aq.put (some 43) v) W2 from ⟨hJ2.put hS 0 43 rfl (by omega) (W' := W2) hW hT v hv, hs⟩
      clear ho hall hl hQ
      generalize (JfrT B4 n cb A2 of2 i jn ex ey gx gy a b c d k w0 a0) (lq.setIfInBounds 0 true) = K at hK ⊢
      clear hJ2 hS z1 z2 z3 z4 z6 z7
      go_simp
      exact hK _ _ z5 (fun _ _ h => h) rfl (hs.quiet 0 43 _ (by decide) (by decide))
    | 1, ho =>
      cases ho
      refine wpOp_of rfl rfl ?_
      have hK := fun (v : Value) (W2 : World) hW hT hv (hs : SfrT B4 n cb A2 of2 i jn ex ey gx gy a b c d k (lq.setIfInBounds 1 true) (aq.put (some 44) v) W2) => show (JfrT B4 n cb A2 of2 i jn ex ey gx gy a b c d k w0 a0) (lq.setIfInBounds 1 true) (aq.put (some 44) v) W2 from ⟨hJ2.put hS 1 44 rfl (by omega) (W' := W2) hW hT v hv, hs⟩
      clear ho hall hl hQ
      generalize (JfrT B4 n cb A2 of2 i jn ex ey gx gy a b c d k w0 a0) (lq.setIfInBounds 1 true) = K at hK ⊢
      clear hJ2 hS z1 z2 z3 z4 z6 z7
      go_simp
      exact hK _ _ z5 (fun _ _ h => h) rfl (hs.quiet 1 44 _ (by decide) (by decide))
    | 2, ho =>
      cases ho
      refine wpOp_of rfl rfl ?_
      have f0 : (aq.tmps.getD 43 undef) = .slice (some ⟨A2, of2, none⟩) n cb := z6 0 43 (hall { on := 0, ground := Ground.data } (by simp) rfl) rfl
      have f1 : (aq.tmps.getD 44 undef) = .int .i64 (i : Int) := z6 1 44 (hall { on := 1, ground := Ground.data } (by simp) rfl) rfl
      have hiI : (i : Int) < n := by omega
      have hnI : (n : Int) ≤ 12 := by omega
      have hK := fun (v : Value) (W2 : World) hW hT hv (hs : SfrT B4 n cb A2 of2 i jn ex ey gx gy a b c d k (lq.setIfInBounds 2 true) (aq.put (some 45) v) W2) => show (JfrT B4 n cb A2 of2 i jn ex ey gx gy a b c d k w0 a0) (lq.setIfInBounds 2 true) (aq.put (some 45) v) W2 from ⟨hJ2.put hS 2 45 rfl (by omega) (W' := W2) hW hT v hv, hs⟩
      clear ho hall hl hQ
      generalize (JfrT B4 n cb A2 of2 i jn ex ey gx gy a b c d k w0 a0) (lq.setIfInBounds 2 true) = K at hK ⊢
      clear hJ2 hS z1 z2 z3 z4 z6 z7
      go_simp
      exact hK _ _ z5 (fun _ _ h => h) rfl (hs.quiet 2 45 _ (by decide) (by decide))
    | 3, ho =>
      cases ho
      refine wpOp_of rfl rfl ?_
      have f2 : (aq.tmps.getD 45 undef) = .pointer (some ⟨A2, of2 + i * 2, none⟩) := z6 2 45 (hall { on := 2, ground := Ground.data } (by simp) rfl) rfl
      have hK := fun (v : Value) (W2 : World) hW hT hv (hs : SfrT B4 n cb A2 of2 i jn ex ey gx gy a b c d k (lq.setIfInBounds 3 true) (aq.put (some 46) v) W2) => show (JfrT B4 n cb A2 of2 i jn ex ey gx gy a b c d k w0 a0) (lq.setIfInBounds 3 true) (aq.put (some 46) v) W2 from ⟨hJ2.put hS 3 46 rfl (by omega) (W' := W2) hW hT v hv, hs⟩
      clear ho hall hl hQ
      generalize (JfrT B4 n cb A2 of2 i jn ex ey gx gy a b c d k w0 a0) (lq.setIfInBounds 3 true) = K at hK ⊢
      clear hJ2 hS z1 z2 z3 z4 z6 z7
      go_simp
      exact hK _ _ z5 (fun _ _ h => h) rfl (hs.quiet 3 46 _ (by decide) (by decide))
    | 4, ho =>
      cases ho
      refine wpOp_of rfl rfl ?_
      have hK := fun (v : Value) (W2 : World) hW hT hv (hs : SfrT B4 n cb A2 of2 i jn ex ey gx gy a b c d k (lq.setIfInBounds 4 true) (aq.put (some 47) v) W2) => show (JfrT B4 n cb A2 of2 i jn ex ey gx gy a b c d k w0 a0) (lq.setIfInBounds 4 true) (aq.put (some 47) v) W2 from ⟨hJ2.put hS 4 47 rfl (by omega) (W' := W2) hW hT v hv, hs⟩
      clear ho hall hl hQ
      generalize (JfrT B4 n cb A2 of2 i jn ex ey gx gy a b c d k w0 a0) (lq.setIfInBounds 4 true) = K at hK ⊢
      clear hJ2 hS z1 z2 z3 z4 z6 z7
      go_simp
      exact hK _ _ z5 (fun _ _ h => h) rfl (hs.quiet 4 47 _ (by decide) (by decide))
    | 5, ho =>
      cases ho
      refine wpOp_of rfl rfl ?_
      have hK := fun (v : Value) (W2 : World) hW hT hv (hs : SfrT B4 n cb A2 of2 i jn ex ey gx gy a b c d k (lq.setIfInBounds 5 true) (aq.put (some 48) v) W2) => show (JfrT B4 n cb A2 of2 i jn ex ey gx gy a b c d k w0 a0) (lq.setIfInBounds 5 true) (aq.put (some 48) v) W2 from ⟨hJ2.put hS 5 48 rfl (by omega) (W' := W2) hW hT v hv, hs⟩
      clear ho hall hl hQ
      generalize (JfrT B4 n cb A2 of2 i jn ex ey gx gy a b c d k w0 a0) (lq.setIfInBounds 5 true) = K at hK ⊢
      clear hJ2 hS z1 z2 z3 z4 z6 z7
      go_simp
      exact hK _ _ z5 (fun _ _ h => h) rfl (hs.quiet 5 48 _ (by decide) (by decide))
    | 6, ho =>
      cases ho
      refine wpOp_of rfl rfl ?_
      have f5 : (aq.tmps.getD 48 undef) = .int .i64 (i : Int) := z6 5 48 (hall { on := 5, ground := Ground.data } (by simp) rfl) rfl
      have wI : IntKind.i64.wrap ((i : Int) + 1) = (i : Int) + 1 := by rw [IntKind.wrap_i64]; omega
      have hK := fun (v : Value) (W2 : World) hW hT hv (hs : SfrT B4 n cb A2 of2 i jn ex ey gx gy a b c d k (lq.setIfInBounds 6 true) (aq.put (some 49) v) W2) => show (JfrT B4 n cb A2 of2 i jn ex ey gx gy a b c d k w0 a0) (lq.setIfInBounds 6 true) (aq.put (some 49) v) W2 from ⟨hJ2.put hS 6 49 rfl (by omega) (W' := W2) hW hT v hv, hs⟩
      clear ho hall hl hQ
      generalize (JfrT B4 n cb A2 of2 i jn ex ey gx gy a b c d k w0 a0) (lq.setIfInBounds 6 true) = K at hK ⊢
      clear hJ2 hS z1 z2 z3 z4 z6 z7
      go_simp
      exact hK _ _ z5 (fun _ _ h => h) rfl (hs.quiet 6 49 _ (by decide) (by decide))
    | 7, ho =>
      cases ho
      refine wpOp_of rfl rfl ?_
      have hK := fun (v : Value) (W2 : World) hW hT hv (hs : SfrT B4 n cb A2 of2 i jn ex ey gx gy a b c d k (lq.setIfInBounds 7 true) (aq.put (some 50) v) W2) => show (JfrT B4 n cb A2 of2 i jn ex ey gx gy a b c d k w0 a0) (lq.setIfInBounds 7 true) (aq.put (some 50) v) W2 from ⟨hJ2.put hS 7 50 rfl (by omega) (W' := W2) hW hT v hv, hs⟩
      clear ho hall hl hQ
      generalize (JfrT B4 n cb A2 of2 i jn ex ey gx gy a b c d k w0 a0) (lq.setIfInBounds 7 true) = K at hK ⊢
      clear hJ2 hS z1 z2 z3 z4 z6 z7
      go_simp
      exact hK _ _ z5 (fun _ _ h => h) rfl (hs.quiet 7 50 _ (by decide) (by decide))
    | 8, ho =>
      cases ho
      refine wpOp_of rfl rfl ?_
      have f7 : (aq.tmps.getD 50 undef) = .slice (some ⟨A2, of2, none⟩) n cb := z6 7 50 (hall { on := 7, ground := Ground.data } (by simp) rfl) rfl
      have hK := fun (v : Value) (W2 : World) hW hT hv (hs : SfrT B4 n cb A2 of2 i jn ex ey gx gy a b c d k (lq.setIfInBounds 8 true) (aq.put (some 51) v) W2) => show (JfrT B4 n cb A2 of2 i jn ex ey gx gy a b c d k w0 a0) (lq.setIfInBounds 8 true) (aq.put (some 51) v) W2 from ⟨hJ2.put hS 8 51 rfl (by omega) (W' := W2) hW hT v hv, hs⟩
      clear ho hall hl hQ
      generalize (JfrT B4 n cb A2 of2 i jn ex ey gx gy a b c d k w0 a0) (lq.setIfInBounds 8 true) = K at hK ⊢
      clear hJ2 hS z1 z2 z3 z4 z6 z7
      go_simp
      exact hK _ _ z5 (fun _ _ h => h) rfl (hs.quiet 8 51 _ (by decide) (by decide))
    | 9, ho =>
      cases ho
      refine wpOp_of rfl rfl ?_
      have f6 : (aq.tmps.getD 49 undef) = .int .i64 ((i : Int) + 1) := z6 6 49 (hall { on := 6, ground := Ground.data } (by simp) rfl) rfl
      have f8 : (aq.tmps.getD 51 undef) = .int .i64 (n : Int) := z6 8 51 (hall { on := 8, ground := Ground.data } (by simp) rfl) rfl
      have hrem : ((i : Int) + 1).tmod (n : Int) = (jn : Int) := by rw [hj.out, Int.tmod_eq_emod_of_nonneg (by omega), Int.natCast_emod]; rfl
      have hn0 : ¬ ((n : Int) = 0) := by omega
      have hn00 : ¬ (n = 0) := by omega
      have wj : IntKind.i64.wrap (jn : Int) = (jn : Int) := by rw [IntKind.wrap_i64]; omega
      have hK := fun (v : Value) (W2 : World) hW hT hv (hs : SfrT B4 n cb A2 of2 i jn ex ey gx gy a b c d k (lq.setIfInBounds 9 true) (aq.put (some 52) v) W2) => show (JfrT B4 n cb A2 of2 i jn ex ey gx gy a b c d k w0 a0) (lq.setIfInBounds 9 true) (aq.put (some 52) v) W2 from ⟨hJ2.put hS 9 52 rfl (by omega) (W' := W2) hW hT v hv, hs⟩
      clear ho hall hl hQ
      generalize (JfrT B4 n cb A2 of2 i jn ex ey gx gy a b c d k w0 a0) (lq.setIfInBounds 9 true) = K at hK ⊢
      clear hJ2 hS z1 z2 z3 z4 z6 z7
      go_simp
      exact hK _ _ z5 (fun _ _ h => h) rfl (hs.quiet 9 52 _ (by decide) (by decide))
    | 10, ho =>
      cases ho
      refine wpOp_of rfl rfl ?_
      have f4 : (aq.tmps.getD 47 undef) = .slice (some ⟨A2, of2, none⟩) n cb := z6 4 47 (hall { on := 4, ground := Ground.data } (by simp) rfl) rfl
      have f9 : (aq.tmps.getD 52 undef) = .int .i64 (jn : Int) := z6 9 52 (hall { on := 9, ground := Ground.data } (by simp) rfl) rfl
      have hjI : (jn : Int) < n := by omega
      have hnI : (n : Int) ≤ 12 := by omega
      have hK := fun (v : Value) (W2 : World) hW hT hv (hs : SfrT B4 n cb A2 of2 i jn ex ey gx gy a b c d k (lq.setIfInBounds 10 true) (aq.put (some 53) v) W2) => show (JfrT B4 n cb A2 of2 i jn ex ey gx gy a b c d k w0 a0) (lq.setIfInBounds 10 true) (aq.put (some 53) v) W2 from ⟨hJ2.put hS 10 53 rfl (by omega) (W' := W2) hW hT v hv, hs⟩
      clear ho hall hl hQ
      generalize (JfrT B4 n cb A2 of2 i jn ex ey gx gy a b c d k w0 a0) (lq.setIfInBounds 10 true) = K at hK ⊢
      clear hJ2 hS z1 z2 z3 z4 z6 z7
      go_simp
      exact hK _ _ z5 (fun _ _ h => h) rfl (hs.quiet 10 53 _ (by decide) (by decide))
    | 11, ho =>
      cases ho
      refine wpOp_of rfl rfl ?_
      have f10 : (aq.tmps.getD 53 undef) = .pointer (some ⟨A2, of2 + jn * 2, none⟩) := z6 10 53 (hall { on := 10, ground := Ground.data } (by simp) rfl) rfl
      have hK := fun (v : Value) (W2 : World) hW hT hv (hs : SfrT B4 n cb A2 of2 i jn ex ey gx gy a b c d k (lq.setIfInBounds 11 true) (aq.put (some 54) v) W2) => show (JfrT B4 n cb A2 of2 i jn ex ey gx gy a b c d k w0 a0) (lq.setIfInBounds 11 true) (aq.put (some 54) v) W2 from ⟨hJ2.put hS 11 54 rfl (by omega) (W' := W2) hW hT v hv, hs⟩
      clear ho hall hl hQ
      generalize (JfrT B4 n cb A2 of2 i jn ex ey gx gy a b c d k w0 a0) (lq.setIfInBounds 11 true) = K at hK ⊢
      clear hJ2 hS z1 z2 z3 z4 z6 z7
      go_simp
      exact hK _ _ z5 (fun _ _ h => h) rfl (hs.quiet 11 54 _ (by decide) (by decide))
    | 12, ho =>
      cases ho
      refine wpOp_of rfl rfl ?_
      have f3 : (aq.tmps.getD 46 undef) = .agg #[.int .i64 ex, .int .i64 ey] := z6 3 46 (hall { on := 3, ground := Ground.data } (by simp) rfl) rfl
      have f11 : (aq.tmps.getD 54 undef) = .agg #[.int .i64 gx, .int .i64 gy] := z6 11 54 (hall { on := 11, ground := Ground.data } (by simp) rfl) rfl
      have hK := fun (v : Value) (W2 : World) hW hT hv (hs : SfrT B4 n cb A2 of2 i jn ex ey gx gy a b c d k (lq.setIfInBounds 12 true) (aq.put (some 55) v) W2) => show (JfrT B4 n cb A2 of2 i jn ex ey gx gy a b c d k w0 a0) (lq.setIfInBounds 12 true) (aq.put (some 55) v) W2 from ⟨hJ2.put hS 12 55 rfl (by omega) (W' := W2) hW hT v hv, hs⟩
      clear ho hall hl hQ
      generalize (JfrT B4 n cb A2 of2 i jn ex ey gx gy a b c d k w0 a0) (lq.setIfInBounds 12 true) = K at hK ⊢
      clear hJ2 hS z1 z2 z3 z4 z6 z7
      go_simp
      refine (hSO W).mono ?_
      rintro e1 v1 ⟨rfl, hBv⟩
      exact hK _ _ (z5.trans (hBv.mono z5.size)) (fun _ _ h => h.mono hBv) rfl ((hs.step hBv).quiet 12 55 _ (by decide) (by decide))
    | 13, ho =>
      cases ho
      refine wpOp_of rfl rfl ?_
      have f12 : (aq.tmps.getD 55 undef) = .tuple #[.agg #[.int .i64 a, .int .i64 b, .int .i64 c, .int .i64 d], .bool k] := z6 12 55 (hall { on := 12, ground := Ground.data } (by simp) rfl) rfl
      have hK := fun (v : Value) (W2 : World) hW hT hv (hs : SfrT B4 n cb A2 of2 i jn ex ey gx gy a b c d k (lq.setIfInBounds 13 true) (aq.put (some 42) v) W2) => show (JfrT B4 n cb A2 of2 i jn ex ey gx gy a b c d k w0 a0) (lq.setIfInBounds 13 true) (aq.put (some 42) v) W2 from ⟨hJ2.put hS 13 42 rfl (by omega) (W' := W2) hW hT v hv, hs⟩
      clear ho hall hl hQ
      generalize (JfrT B4 n cb A2 of2 i jn ex ey gx gy a b c d k w0 a0) (lq.setIfInBounds 13 true) = K at hK ⊢
      clear hJ2 hS z1 z2 z3 z4 z6 z7
      go_simp
      exact hK _ _ z5 (fun _ _ h => h) rfl (hs.quiet 13 42 _ (by decide) (by decide))
    | 14, ho =>
      cases ho
      refine wpOp_of rfl rfl ?_
      have f13 : (aq.tmps.getD 42 undef) = .tuple #[.agg #[.int .i64 a, .int .i64 b, .int .i64 c, .int .i64 d], .bool k] := z6 13 42 (hall { on := 13, ground := Ground.data } (by simp) rfl) rfl
      have hK := fun (v : Value) (W2 : World) hW hT hv (hs : SfrT B4 n cb A2 of2 i jn ex ey gx gy a b c d k (lq.setIfInBounds 14 true) (aq.put (some 56) v) W2) => show (JfrT B4 n cb A2 of2 i jn ex ey gx gy a b c d k w0 a0) (lq.setIfInBounds 14 true) (aq.put (some 56) v) W2 from ⟨hJ2.put hS 14 56 rfl (by omega) (W' := W2) hW hT v hv, hs⟩
      clear ho hall hl hQ
      generalize (JfrT B4 n cb A2 of2 i jn ex ey gx gy a b c d k w0 a0) (lq.setIfInBounds 14 true) = K at hK ⊢
      clear hJ2 hS z1 z2 z3 z4 z6 z7
      go_simp
      exact hK _ _ z5 (fun _ _ h => h) rfl (hs.quiet 14 56 _ (by decide) (by decide))
    | 15, ho =>
      cases ho
      refine wpOp_of rfl rfl ?_
      have f13 : (aq.tmps.getD 42 undef) = .tuple #[.agg #[.int .i64 a, .int .i64 b, .int .i64 c, .int .i64 d], .bool k] := z6 13 42 (hall { on := 13, ground := Ground.data } (by simp) rfl) rfl
      have hK := fun (v : Value) (W2 : World) hW hT hv (hs : SfrT B4 n cb A2 of2 i jn ex ey gx gy a b c d k (lq.setIfInBounds 15 true) (aq.put (some 57) v) W2) => show (JfrT B4 n cb A2 of2 i jn ex ey gx gy a b c d k w0 a0) (lq.setIfInBounds 15 true) (aq.put (some 57) v) W2 from ⟨hJ2.put hS 15 57 rfl (by omega) (W' := W2) hW hT v hv, hs⟩
      clear ho hall hl hQ
      generalize (JfrT B4 n cb A2 of2 i jn ex ey gx gy a b c d k w0 a0) (lq.setIfInBounds 15 true) = K at hK ⊢
      clear hJ2 hS z1 z2 z3 z4 z6 z7
      go_simp
      exact hK _ _ z5 (fun _ _ h => h) rfl (hs.quiet 15 57 _ (by decide) (by decide))
    | 16, ho =>
      cases ho
      refine wpOp_of rfl rfl ?_
      have hl9 := hl
      have hsz : 7 < aq.tmps.size := by omega
      have hK := fun (v : Value) (W2 : World) hW hT hv (hs : SfrT B4 n cb A2 of2 i jn ex ey gx gy a b c d k (lq.setIfInBounds 16 true) (aq.put (some 7) v) W2) => show (JfrT B4 n cb A2 of2 i jn ex ey gx gy a b c d k w0 a0) (lq.setIfInBounds 16 true) (aq.put (some 7) v) W2 from ⟨hJ2.put hS 16 7 rfl (by omega) (W' := W2) hW hT v hv, hs⟩
      clear ho hall hl hQ
      generalize (JfrT B4 n cb A2 of2 i jn ex ey gx gy a b c d k w0 a0) (lq.setIfInBounds 16 true) = K at hK ⊢
      clear hJ2 hS z1 z2 z3 z4 z6 z7
      go_simp
      exact hK _ _ (z5.alloc z5.size _) (fun _ _ h => h.mono ((Below.refl _ _).alloc (Nat.le_refl _) _)) trivial ((hs.step ((Below.refl _ _).alloc (Nat.le_refl _) _)).al hl9 hsz (by have := z5.size; omega) (Blk.new W [.int .i64 0, .int .i64 0, .int .i64 0, .int .i64 0] _ rfl))
    | 17, ho =>
      cases ho
      refine wpOp_of rfl rfl ?_
      have f16 : True := z6 16 7 (hall { on := 16, ground := Ground.data } (by simp) rfl) rfl
      have f14 : (aq.tmps.getD 56 undef) = .agg #[.int .i64 a, .int .i64 b, .int .i64 c, .int .i64 d] := z6 14 56 (hall { on := 14, ground := Ground.data } (by simp) rfl) rfl
      have l9 : lq.getD 16 false = true := hall { on := 16, ground := Ground.data } (by simp) rfl
      have hK := fun (W2 : World) hW hT hv (hs : SfrT B4 n cb A2 of2 i jn ex ey gx gy a b c d k (lq.setIfInBounds 17 true) aq W2) => show (JfrT B4 n cb A2 of2 i jn ex ey gx gy a b c d k w0 a0) (lq.setIfInBounds 17 true) aq W2 from ⟨hJ2.world 17 rfl (W' := W2) hW hT hv, hs⟩
      clear ho hall hl hQ
      generalize (JfrT B4 n cb A2 of2 i jn ex ey gx gy a b c d k w0 a0) (lq.setIfInBounds 17 true) = K at hK ⊢
      clear hJ2 hS z1 z2 z3 z4 z6 z7
      obtain ⟨gz, e7, hgz, ⟨z0q, z1q, z2q, z3q, GZ⟩, _⟩ := hs.2 l9
      have gl := GZ.lt
      have c0z := GZ.c 0 rfl; have d0z := GZ.f 0 rfl; have c1z := GZ.c 1 rfl; have d1z := GZ.f 1 rfl; have c2z := GZ.c 2 rfl; have d2z := GZ.f 2 rfl; have c3z := GZ.c 3 rfl; have d3z := GZ.f 3 rfl
      have NB : Blk ((((W.setCell ⟨gz, 0, none⟩ (.int .i64 a)).setCell ⟨gz, 1, none⟩ (.int .i64 b)).setCell ⟨gz, 2, none⟩ (.int .i64 c)).setCell ⟨gz, 3, none⟩ (.int .i64 d)) gz [.int .i64 a, .int .i64 b, .int .i64 c, .int .i64 d] := Blk.stored4g GZ _ _ _ _
      have hgw : w0.heap.size ≤ gz := by omega
      have NL : Below w0.heap.size w0 ((((W.setCell ⟨gz, 0, none⟩ (.int .i64 a)).setCell ⟨gz, 1, none⟩ (.int .i64 b)).setCell ⟨gz, 2, none⟩ (.int .i64 c)).setCell ⟨gz, 3, none⟩ (.int .i64 d)) := (((z5.setCell (p := ⟨gz, 0, none⟩) hgw _).setCell (p := ⟨gz, 1, none⟩) hgw _).setCell (p := ⟨gz, 2, none⟩) hgw _).setCell (p := ⟨gz, 3, none⟩) hgw _
      have HS : SfrT B4 n cb A2 of2 i jn ex ey gx gy a b c d k (lq.setIfInBounds 17 true) aq ((((W.setCell ⟨gz, 0, none⟩ (.int .i64 a)).setCell ⟨gz, 1, none⟩ (.int .i64 b)).setCell ⟨gz, 2, none⟩ (.int .i64 c)).setCell ⟨gz, 3, none⟩ (.int .i64 d)) := SfrT.st l9 e7 hgz NB
      clear GZ NB hs
      go_simp
      exact hK _ NL (fun _ _ h => VfrT.same h) trivial HS
    | 18, ho =>
      cases ho
      refine wpOp_of rfl rfl ?_
      have f15 : (aq.tmps.getD 57 undef) = .bool k := z6 15 57 (hall { on := 15, ground := Ground.data } (by simp) rfl) rfl
      have hK := fun (v : Value) (W2 : World) hW hT hv (hs : SfrT B4 n cb A2 of2 i jn ex ey gx gy a b c d k (lq.setIfInBounds 18 true) (aq.put (some 8) v) W2) => show (JfrT B4 n cb A2 of2 i jn ex ey gx gy a b c d k w0 a0) (lq.setIfInBounds 18 true) (aq.put (some 8) v) W2 from ⟨hJ2.put hS 18 8 rfl (by omega) (W' := W2) hW hT v hv, hs⟩
      clear ho hall hl hQ
      generalize (JfrT B4 n cb A2 of2 i jn ex ey gx gy a b c d k w0 a0) (lq.setIfInBounds 18 true) = K at hK ⊢
      clear hJ2 hS z1 z2 z3 z4 z6 z7
      go_simp
      exact hK _ _ z5 (fun _ _ h => h) rfl (hs.quiet 18 8 _ (by decide) (by decide))
    | iq + 19, ho => simp at ho
  · intro lq aq W ⟨hJ, hs⟩ hr
    obtain ⟨z1, z2, z3, z4, z5, z6, z7⟩ := hJ
    have hl := listed_of hr [16, 0, 1, 2, 3, 4, 5, 6, 7, 8, 9, 10, 11, 12, 13, 14, 17, 15, 18] [] (by simp) (by kernel_rfl) (by rw [z1]; decide)
    exact hQ aq W z2 z3 (fun e he => z4 e (by simpa using he)) (z7 17 (hl 17 (by simp)) rfl) (z6 18 8 (hl 18 (by simp)) rfl) z5 (by obtain ⟨gz, e1, e2, _, e4⟩ := hs.2 (hl 16 (by simp)); exact ⟨gz, e1, by omega, e4 (hl 17 (by simp))⟩)

def VfrU (m ca A of k : Nat) (a b c d p q u r : Int) (K4 : Int) (B : Nat) : Nat → Value → World → Prop
  | 0, v, _ => v = .agg #[.int .i64 p, .int .i64 q, .int .i64 u, .int .i64 r]
  | 1, v, _ => v = .slice (some ⟨A, of, none⟩) m ca
  | 2, v, _ => v = .int .i64 (k : Int)
  | 3, v, _ => v = .pointer (some ⟨A, of + k * 4, none⟩)
  | 4, v, _ => v = .agg #[.int .i64 a, .int .i64 b, .int .i64 c, .int .i64 d]
  | 5, v, _ => ∃ (af1 af2 af3 : Bool) (ak1 ak2 ak3 : Option Addr) (am1 am2 am3 ax1 ax2 ax3 : Nat) (bf1 bf2 bf3 : Bool) (bk1 bk2 bk3 : Option Addr) (bm1 bm2 bm3 bx1 bx2 bx3 : Nat), v = .tuple #[.int .i64 K4, .agg #[.bool af1, .slice ak1 am1 ax1, .bool af2, .slice ak2 am2 ax2, .bool af3, .slice ak3 am3 ax3], .agg #[.bool bf1, .slice bk1 bm1 bx1, .bool bf2, .slice bk2 bm2 bx2, .bool bf3, .slice bk3 bm3 bx3]]
  | 6, v, _ => ∃ (af1 af2 af3 : Bool) (ak1 ak2 ak3 : Option Addr) (am1 am2 am3 ax1 ax2 ax3 : Nat) (bf1 bf2 bf3 : Bool) (bk1 bk2 bk3 : Option Addr) (bm1 bm2 bm3 bx1 bx2 bx3 : Nat), v = .tuple #[.int .i64 K4, .agg #[.bool af1, .slice ak1 am1 ax1, .bool af2, .slice ak2 am2 ax2, .bool af3, .slice ak3 am3 ax3], .agg #[.bool bf1, .slice bk1 bm1 bx1, .bool bf2, .slice bk2 bm2 bx2, .bool bf3, .slice bk3 bm3 bx3]]
  | 7, v, _ => v = .int .i64 K4
  | 8, v, _ => ∃ (af1 af2 af3 : Bool) (ak1 ak2 ak3 : Option Addr) (am1 am2 am3 ax1 ax2 ax3 : Nat), v = .agg #[.bool af1, .slice ak1 am1 ax1, .bool af2, .slice ak2 am2 ax2, .bool af3, .slice ak3 am3 ax3]
  | 9, v, _ => ∃ (af1 af2 af3 : Bool) (ak1 ak2 ak3 : Option Addr) (am1 am2 am3 ax1 ax2 ax3 : Nat), v = .agg #[.bool af1, .slice ak1 am1 ax1, .bool af2, .slice ak2 am2 ax2, .bool af3, .slice ak3 am3 ax3]
  | 10, v, W => ∃ gz, v = .pointer (some ⟨gz, 0, none⟩) ∧ B ≤ gz ∧ ∃ z0 z1 z2 z3 z4 z5, Blk W gz [z0, z1, z2, z3, z4, z5]
  | 11, v, W => ∃ gz, v = .pointer (some ⟨gz, 0, none⟩) ∧ B ≤ gz ∧ ∃ z0 z1 z2 z3 z4 z5, Blk W gz [z0, z1, z2, z3, z4, z5]
  | 12, v, _ => v = .int .i64 K4
  | _, _, _ => True
theorem VfrU.mono {m ca A of k : Nat} {a b c d p q u r : Int} {K4 : Int} {B j : Nat} {v : Value} {W W2 : World} (hB : Below W.heap.size W W2) (h : VfrU m ca A of k a b c d p q u r K4 B j v W) : VfrU m ca A of k a b c d p q u r K4 B j v W2 := by
  unfold VfrU at *
  split <;> simp only at h <;> first | exact h | (obtain ⟨gz, h1, h2, z0, z1, z2, z3, z4, z5, h3⟩ := h; exact ⟨gz, h1, h2, _, _, _, _, _, _, h3.step hB⟩) | trivial
theorem VfrU.put {m ca A of k : Nat} {a b c d p q u r : Int} {K4 : Int} {B j gz : Nat} {v : Value} {W W2 : World} (hne : ∀ g vs, g ≠ gz → Blk W g vs → Blk W2 g vs) (hz : ∃ z0 z1 z2 z3 z4 z5, Blk W2 gz [z0, z1, z2, z3, z4, z5]) (h : VfrU m ca A of k a b c d p q u r K4 B j v W) : VfrU m ca A of k a b c d p q u r K4 B j v W2 := by
  unfold VfrU at *
  split <;> simp only at h <;> first | exact h | trivial | skip
  all_goals
    obtain ⟨g', h1, h2, z0, z1, z2, z3, z4, z5, h3⟩ := h
    by_cases e : g' = gz
    · subst e
      exact ⟨_, h1, h2, hz⟩
    · exact ⟨g', h1, h2, _, _, _, _, _, _, hne g' _ e h3⟩
set_option maxRecDepth 100000 in
set_option maxHeartbeats 4000000 in
theorem frU {Q : Exit → Act → World → Prop} {m ca A of k : Nat} {a b c d p q u r : Int} {K4 : Int} {A7 : Nat} {w0 : World} {a0 : Act} {idq : Nat} {t0 t1 t2 t3 t4 t5 t6 t7 t8 t9 t10 t11 t12 t13 t14 : TypeId} {q0 q1 q2 q3 q4 q5 q6 q7 q8 q9 q10 q11 q12 q13 q14 : String}
    (hk : k < m) (hm : m ≤ 40) (hM : ∀ w, Calls Try.prog 72 #[.agg #[.int .i64 p, .int .i64 q, .int .i64 u, .int .i64 r], .agg #[.int .i64 a, .int .i64 b, .int .i64 c, .int .i64 d]] w (fun e w' => (∃ (af1 af2 af3 : Bool) (ak1 ak2 ak3 : Option Addr) (am1 am2 am3 ax1 ax2 ax3 : Nat) (bf1 bf2 bf3 : Bool) (bk1 bk2 bk3 : Option Addr) (bm1 bm2 bm3 bx1 bx2 bx3 : Nat), e = .returned (.tuple #[.int .i64 K4, .agg #[.bool af1, .slice ak1 am1 ax1, .bool af2, .slice ak2 am2 ax2, .bool af3, .slice ak3 am3 ax3], .agg #[.bool bf1, .slice bk1 bm1 bx1, .bool bf2, .slice bk2 bm2 bx2, .bool bf3, .slice bk3 bm3 bx3]])) ∧ Below w.heap.size w w')) (h7 : a0.tmps[7]? = some (.pointer (some ⟨A7, 0, none⟩))) (h0 : a0.tmps[0]? = some (.slice (some ⟨A, of, none⟩) m ca)) (h6 : a0.tmps[6]? = some (.int .i64 (k : Int))) (k0 : w0.cell? ⟨A7, 0, none⟩ = some (.int .i64 p)) (l0 : (⟨A7, 0, none⟩ : Addr).block < w0.heap.size) (k1 : w0.cell? ⟨A7, 1, none⟩ = some (.int .i64 q)) (l1 : (⟨A7, 1, none⟩ : Addr).block < w0.heap.size) (k2 : w0.cell? ⟨A7, 2, none⟩ = some (.int .i64 u)) (l2 : (⟨A7, 2, none⟩ : Addr).block < w0.heap.size) (k3 : w0.cell? ⟨A7, 3, none⟩ = some (.int .i64 r)) (l3 : (⟨A7, 3, none⟩ : Addr).block < w0.heap.size) (k4 : w0.cell? ⟨A, of + k * 4, none⟩ = some (.int .i64 a)) (l4 : (⟨A, of + k * 4, none⟩ : Addr).block < w0.heap.size) (k5 : w0.cell? ⟨A, of + k * 4 + 1, none⟩ = some (.int .i64 b)) (l5 : (⟨A, of + k * 4 + 1, none⟩ : Addr).block < w0.heap.size) (k6 : w0.cell? ⟨A, of + k * 4 + 2, none⟩ = some (.int .i64 c)) (l6 : (⟨A, of + k * 4 + 2, none⟩ : Addr).block < w0.heap.size) (k7 : w0.cell? ⟨A, of + k * 4 + 3, none⟩ = some (.int .i64 d)) (l7 : (⟨A, of + k * 4 + 3, none⟩ : Addr).block < w0.heap.size) (hz : a0.tmps.size = 79)
    (hQ : ∀ aq W, aq.tmps.size = a0.tmps.size → aq.defers = a0.defers → (∀ e, e ∉ ([68, 69, 70, 71, 72, 73, 67, 74, 75, 76, 10, 11, 9] : List Nat) → aq.tmps[e]? = a0.tmps[e]?) → VfrU m ca A of k a b c d p q u r K4 w0.heap.size 12 (aq.tmps.getD 9 undef) W → Below w0.heap.size w0 W → Q .normal aq W) :
    (Code.region idq #[{ dst := some 68, op := Op.load 103 (Operand.tmp 7), type := t0, pos := q0, after := #[], guard := none },
    { dst := some 69, op := Op.move (Operand.tmp 0), type := t1, pos := q1, after := #[], guard := none },
    { dst := some 70, op := Op.move (Operand.tmp 6), type := t2, pos := q2, after := #[], guard := none },
    { dst := some 71, op := Op.indexAddr 53 (Operand.tmp 69) (Operand.tmp 70), type := t3, pos := q3, after := #[{ on := 1, ground := Ground.data }, { on := 2, ground := Ground.data }], guard := none },
    { dst := some 72, op := Op.load 103 (Operand.tmp 71), type := t4, pos := q4, after := #[{ on := 3, ground := Ground.data }], guard := none },
    { dst := some 73, op := Op.call { callee := Callee.value (Operand.func 72), args := #[Operand.tmp 68, Operand.tmp 72], argTypes := #[103, 103] }, type := t5, pos := q5, after := #[{ on := 0, ground := Ground.data }, { on := 4, ground := Ground.data }], guard := none },
    { dst := some 67, op := Op.move (Operand.tmp 73), type := t6, pos := q6, after := #[{ on := 5, ground := Ground.data }], guard := none },
    { dst := some 74, op := Op.extract (Operand.tmp 67) 0, type := t7, pos := q7, after := #[{ on := 6, ground := Ground.data }], guard := none },
    { dst := some 75, op := Op.extract (Operand.tmp 67) 1, type := t8, pos := q8, after := #[{ on := 6, ground := Ground.data }, { on := 12, ground := Ground.gcOnly Departure.lateStores }], guard := none },
    { dst := some 76, op := Op.extract (Operand.tmp 67) 2, type := t9, pos := q9, after := #[{ on := 6, ground := Ground.data }, { on := 13, ground := Ground.gcOnly Departure.lateStores }], guard := none },
    { dst := some 10, op := Op.alloc 91, type := t10, pos := q10, after := #[], guard := none },
    { dst := some 11, op := Op.alloc 91, type := t11, pos := q11, after := #[], guard := none },
    { dst := some 9, op := Op.assign (Operand.tmp 74), type := t12, pos := q12, after := #[{ on := 7, ground := Ground.data }, { on := 5, ground := Ground.chain }, { on := 0, ground := Ground.phase }, { on := 1, ground := Ground.phase }, { on := 2, ground := Ground.phase }, { on := 3, ground := Ground.phase }, { on := 4, ground := Ground.phase }, { on := 5, ground := Ground.phase }, { on := 6, ground := Ground.phase }, { on := 7, ground := Ground.phase }, { on := 8, ground := Ground.textOnly Departure.lateStores }, { on := 9, ground := Ground.textOnly Departure.lateStores }, { on := 10, ground := Ground.phase }, { on := 11, ground := Ground.phase }], guard := none },
    { dst := none, op := Op.store 91 (Operand.tmp 10) (Operand.tmp 75), type := t13, pos := q13, after := #[{ on := 10, ground := Ground.data }, { on := 8, ground := Ground.data }, { on := 12, ground := Ground.chain }, { on := 0, ground := Ground.phase }, { on := 1, ground := Ground.phase }, { on := 2, ground := Ground.phase }, { on := 3, ground := Ground.phase }, { on := 4, ground := Ground.phase }, { on := 5, ground := Ground.phase }, { on := 6, ground := Ground.phase }, { on := 7, ground := Ground.phase }, { on := 8, ground := Ground.phase }, { on := 9, ground := Ground.textOnly Departure.lateStores }, { on := 10, ground := Ground.phase }, { on := 11, ground := Ground.phase }, { on := 12, ground := Ground.phase }], guard := none },
    { dst := none, op := Op.store 91 (Operand.tmp 11) (Operand.tmp 76), type := t14, pos := q14, after := #[{ on := 11, ground := Ground.data }, { on := 9, ground := Ground.data }, { on := 13, ground := Ground.chain }, { on := 0, ground := Ground.phase }, { on := 1, ground := Ground.phase }, { on := 2, ground := Ground.phase }, { on := 3, ground := Ground.phase }, { on := 4, ground := Ground.phase }, { on := 5, ground := Ground.phase }, { on := 6, ground := Ground.phase }, { on := 7, ground := Ground.phase }, { on := 8, ground := Ground.phase }, { on := 9, ground := Ground.phase }, { on := 10, ground := Ground.phase }, { on := 11, ground := Ground.phase }, { on := 12, ground := Ground.phase }, { on := 13, ground := Ground.phase }], guard := none }] true).wp Try.prog Q a0 w0 := by
  have hS : distS [some 68, some 69, some 70, some 71, some 72, some 73, some 67, some 74, some 75, some 76, some 10, some 11, some 9, none, none] = true := rfl
  refine wp_region_q (by kernel_rfl) w0.heap.size [some 68, some 69, some 70, some 71, some 72, some 73, some 67, some 74, some 75, some 76, some 10, some 11, some 9, none, none] (VfrU m ca A of k a b c d p q u r K4 w0.heap.size) rfl ?_ ?_
  · intro Q lq aq W iq oq hJ hl ho hall
    have hJ2 := hJ
    obtain ⟨z1, z2, z3, z4, z5, z6, z7⟩ := hJ
    have g7 : aq.tmps.getD 7 undef = .pointer (some ⟨A7, 0, none⟩) := by rw [Array.getD_eq_getD_getElem?, z4 7 (by decide), h7]; rfl
    have g0 : aq.tmps.getD 0 undef = .slice (some ⟨A, of, none⟩) m ca := by rw [Array.getD_eq_getD_getElem?, z4 0 (by decide), h0]; rfl
    have g6 : aq.tmps.getD 6 undef = .int .i64 (k : Int) := by rw [Array.getD_eq_getD_getElem?, z4 6 (by decide), h6]; rfl
    have c0 : W.cell? ⟨A7, 0, none⟩ = some (.int .i64 p) := (z5.cell l0).trans k0
    have c1 : W.cell? ⟨A7, 1, none⟩ = some (.int .i64 q) := (z5.cell l1).trans k1
    have c2 : W.cell? ⟨A7, 2, none⟩ = some (.int .i64 u) := (z5.cell l2).trans k2
    have c3 : W.cell? ⟨A7, 3, none⟩ = some (.int .i64 r) := (z5.cell l3).trans k3
    have c4 : W.cell? ⟨A, of + k * 4, none⟩ = some (.int .i64 a) := (z5.cell l4).trans k4
    have c5 : W.cell? ⟨A, of + k * 4 + 1, none⟩ = some (.int .i64 b) := (z5.cell l5).trans k5
    have c6 : W.cell? ⟨A, of + k * 4 + 2, none⟩ = some (.int .i64 c) := (z5.cell l6).trans k6
    have c7 : W.cell? ⟨A, of + k * 4 + 3, none⟩ = some (.int .i64 d) := (z5.cell l7).trans k7
    match iq, ho with
    | 0, ho =>
      cases ho
      refine wpOp_of rfl rfl ?_
      have hK := fun (v : Value) (W2 : World) hW hT hv => hJ2.put hS 0 68 rfl (by omega) (W' := W2) hW hT v hv
      clear ho hall hl hQ
      generalize InvQ w0.heap.size [some 68, some 69, some 70, some 71, some 72, some 73, some 67, some 74, some 75, some 76, some 10, some 11, some 9, none, none] (VfrU m ca A of k a b c d p q u r K4 w0.heap.size) w0 a0 (lq.setIfInBounds 0 true) = K at hK ⊢
      clear hJ2 hS z1 z2 z3 z4 z6 z7
      go_simp
      exact hK _ _ z5 (fun _ _ h => h) rfl
    | 1, ho =>
      cases ho
      refine wpOp_of rfl rfl ?_
      have hK := fun (v : Value) (W2 : World) hW hT hv => hJ2.put hS 1 69 rfl (by omega) (W' := W2) hW hT v hv
      clear ho hall hl hQ
      generalize InvQ w0.heap.size [some 68, some 69, some 70, some 71, some 72, some 73, some 67, some 74, some 75, some 76, some 10, some 11, some 9, none, none] (VfrU m ca A of k a b c d p q u r K4 w0.heap.size) w0 a0 (lq.setIfInBounds 1 true) = K at hK ⊢
      clear hJ2 hS z1 z2 z3 z4 z6 z7
      go_simp
      exact hK _ _ z5 (fun _ _ h => h) rfl
    | 2, ho =>
      cases ho
      refine wpOp_of rfl rfl ?_
      have hK := fun (v : Value) (W2 : World) hW hT hv => hJ2.put hS 2 70 rfl (by omega) (W' := W2) hW hT v hv
      clear ho hall hl hQ
      generalize InvQ w0.heap.size [some 68, some 69, some 70, some 71, some 72, some 73, some 67, some 74, some 75, some 76, some 10, some 11, some 9, none, none] (VfrU m ca A of k a b c d p q u r K4 w0.heap.size) w0 a0 (lq.setIfInBounds 2 true) = K at hK ⊢
      clear hJ2 hS z1 z2 z3 z4 z6 z7
      go_simp
      exact hK _ _ z5 (fun _ _ h => h) rfl
    | 3, ho =>
      cases ho
      refine wpOp_of rfl rfl ?_
      have f1 : (aq.tmps.getD 69 undef) = .slice (some ⟨A, of, none⟩) m ca := z6 1 69 (hall { on := 1, ground := Ground.data } (by simp) rfl) rfl
      have f2 : (aq.tmps.getD 70 undef) = .int .i64 (k : Int) := z6 2 70 (hall { on := 2, ground := Ground.data } (by simp) rfl) rfl
      have hkI : (k : Int) < m := by omega
      have hmI : (m : Int) ≤ 40 := by omega
      have hK := fun (v : Value) (W2 : World) hW hT hv => hJ2.put hS 3 71 rfl (by omega) (W' := W2) hW hT v hv
      clear ho hall hl hQ
      generalize InvQ w0.heap.size [some 68, some 69, some 70, some 71, some 72, some 73, some 67, some 74, some 75, some 76, some 10, some 11, some 9, none, none] (VfrU m ca A of k a b c d p q u r K4 w0.heap.size) w0 a0 (lq.setIfInBounds 3 true) = K at hK ⊢
      clear hJ2 hS z1 z2 z3 z4 z6 z7
      go_simp
      exact hK _ _ z5 (fun _ _ h => h) rfl
    | 4, ho =>
      cases ho
      refine wpOp_of rfl rfl ?_
      have f3 : (aq.tmps.getD 71 undef) = .pointer (some ⟨A, of + k * 4, none⟩) := z6 3 71 (hall { on := 3, ground := Ground.data } (by simp) rfl) rfl
      have hK := fun (v : Value) (W2 : World) hW hT hv => hJ2.put hS 4 72 rfl (by omega) (W' := W2) hW hT v hv
      clear ho hall hl hQ
      generalize InvQ w0.heap.size [some 68, some 69, some 70, some 71, some 72, some 73, some 67, some 74, some 75, some 76, some 10, some 11, some 9, none, none] (VfrU m ca A of k a b c d p q u r K4 w0.heap.size) w0 a0 (lq.setIfInBounds 4 true) = K at hK ⊢
      clear hJ2 hS z1 z2 z3 z4 z6 z7
      go_simp
      exact hK _ _ z5 (fun _ _ h => h) rfl
    | 5, ho =>
      cases ho
      refine wpOp_of rfl rfl ?_
      have f0 : (aq.tmps.getD 68 undef) = .agg #[.int .i64 p, .int .i64 q, .int .i64 u, .int .i64 r] := z6 0 68 (hall { on := 0, ground := Ground.data } (by simp) rfl) rfl
      have f4 : (aq.tmps.getD 72 undef) = .agg #[.int .i64 a, .int .i64 b, .int .i64 c, .int .i64 d] := z6 4 72 (hall { on := 4, ground := Ground.data } (by simp) rfl) rfl
      have hK := fun (v : Value) (W2 : World) hW hT hv => hJ2.put hS 5 73 rfl (by omega) (W' := W2) hW hT v hv
      clear ho hall hl hQ
      generalize InvQ w0.heap.size [some 68, some 69, some 70, some 71, some 72, some 73, some 67, some 74, some 75, some 76, some 10, some 11, some 9, none, none] (VfrU m ca A of k a b c d p q u r K4 w0.heap.size) w0 a0 (lq.setIfInBounds 5 true) = K at hK ⊢
      clear hJ2 hS z1 z2 z3 z4 z6 z7
      go_simp
      refine (hM W).mono ?_
      rintro e1 v1 ⟨⟨af1, af2, af3, ak1, ak2, ak3, am1, am2, am3, ax1, ax2, ax3, bf1, bf2, bf3, bk1, bk2, bk3, bm1, bm2, bm3, bx1, bx2, bx3, rfl⟩, hBv⟩
      exact hK _ _ (z5.trans (hBv.mono z5.size)) (fun _ _ h => h.mono hBv) ⟨_, _, _, _, _, _, _, _, _, _, _, _, _, _, _, _, _, _, _, _, _, _, _, _, rfl⟩
    | 6, ho =>
      cases ho
      refine wpOp_of rfl rfl ?_
      have f5 : ∃ (af1 af2 af3 : Bool) (ak1 ak2 ak3 : Option Addr) (am1 am2 am3 ax1 ax2 ax3 : Nat) (bf1 bf2 bf3 : Bool) (bk1 bk2 bk3 : Option Addr) (bm1 bm2 bm3 bx1 bx2 bx3 : Nat), (aq.tmps.getD 73 undef) = .tuple #[.int .i64 K4, .agg #[.bool af1, .slice ak1 am1 ax1, .bool af2, .slice ak2 am2 ax2, .bool af3, .slice ak3 am3 ax3], .agg #[.bool bf1, .slice bk1 bm1 bx1, .bool bf2, .slice bk2 bm2 bx2, .bool bf3, .slice bk3 bm3 bx3]] := z6 5 73 (hall { on := 5, ground := Ground.data } (by simp) rfl) rfl
      have hK := fun (v : Value) (W2 : World) hW hT hv => hJ2.put hS 6 67 rfl (by omega) (W' := W2) hW hT v hv
      clear ho hall hl hQ
      generalize InvQ w0.heap.size [some 68, some 69, some 70, some 71, some 72, some 73, some 67, some 74, some 75, some 76, some 10, some 11, some 9, none, none] (VfrU m ca A of k a b c d p q u r K4 w0.heap.size) w0 a0 (lq.setIfInBounds 6 true) = K at hK ⊢
      clear hJ2 hS z1 z2 z3 z4 z6 z7
      obtain ⟨af1, af2, af3, ak1, ak2, ak3, am1, am2, am3, ax1, ax2, ax3, bf1, bf2, bf3, bk1, bk2, bk3, bm1, bm2, bm3, bx1, bx2, bx3, es⟩ := f5
      go_simp
      exact hK _ _ z5 (fun _ _ h => h) ⟨_, _, _, _, _, _, _, _, _, _, _, _, _, _, _, _, _, _, _, _, _, _, _, _, rfl⟩
    | 7, ho =>
      cases ho
      refine wpOp_of rfl rfl ?_
      have f6 : ∃ (af1 af2 af3 : Bool) (ak1 ak2 ak3 : Option Addr) (am1 am2 am3 ax1 ax2 ax3 : Nat) (bf1 bf2 bf3 : Bool) (bk1 bk2 bk3 : Option Addr) (bm1 bm2 bm3 bx1 bx2 bx3 : Nat), (aq.tmps.getD 67 undef) = .tuple #[.int .i64 K4, .agg #[.bool af1, .slice ak1 am1 ax1, .bool af2, .slice ak2 am2 ax2, .bool af3, .slice ak3 am3 ax3], .agg #[.bool bf1, .slice bk1 bm1 bx1, .bool bf2, .slice bk2 bm2 bx2, .bool bf3, .slice bk3 bm3 bx3]] := z6 6 67 (hall { on := 6, ground := Ground.data } (by simp) rfl) rfl
      have hK := fun (v : Value) (W2 : World) hW hT hv => hJ2.put hS 7 74 rfl (by omega) (W' := W2) hW hT v hv
      clear ho hall hl hQ
      generalize InvQ w0.heap.size [some 68, some 69, some 70, some 71, some 72, some 73, some 67, some 74, some 75, some 76, some 10, some 11, some 9, none, none] (VfrU m ca A of k a b c d p q u r K4 w0.heap.size) w0 a0 (lq.setIfInBounds 7 true) = K at hK ⊢
      clear hJ2 hS z1 z2 z3 z4 z6 z7
      obtain ⟨af1, af2, af3, ak1, ak2, ak3, am1, am2, am3, ax1, ax2, ax3, bf1, bf2, bf3, bk1, bk2, bk3, bm1, bm2, bm3, bx1, bx2, bx3, es⟩ := f6
      go_simp
      exact hK _ _ z5 (fun _ _ h => h) rfl
    | 8, ho =>
      cases ho
      refine wpOp_of rfl rfl ?_
      have f6 : ∃ (af1 af2 af3 : Bool) (ak1 ak2 ak3 : Option Addr) (am1 am2 am3 ax1 ax2 ax3 : Nat) (bf1 bf2 bf3 : Bool) (bk1 bk2 bk3 : Option Addr) (bm1 bm2 bm3 bx1 bx2 bx3 : Nat), (aq.tmps.getD 67 undef) = .tuple #[.int .i64 K4, .agg #[.bool af1, .slice ak1 am1 ax1, .bool af2, .slice ak2 am2 ax2, .bool af3, .slice ak3 am3 ax3], .agg #[.bool bf1, .slice bk1 bm1 bx1, .bool bf2, .slice bk2 bm2 bx2, .bool bf3, .slice bk3 bm3 bx3]] := z6 6 67 (hall { on := 6, ground := Ground.data } (by simp) rfl) rfl
      have hK := fun (v : Value) (W2 : World) hW hT hv => hJ2.put hS 8 75 rfl (by omega) (W' := W2) hW hT v hv
      clear ho hall hl hQ
      generalize InvQ w0.heap.size [some 68, some 69, some 70, some 71, some 72, some 73, some 67, some 74, some 75, some 76, some 10, some 11, some 9, none, none] (VfrU m ca A of k a b c d p q u r K4 w0.heap.size) w0 a0 (lq.setIfInBounds 8 true) = K at hK ⊢
      clear hJ2 hS z1 z2 z3 z4 z6 z7
      obtain ⟨af1, af2, af3, ak1, ak2, ak3, am1, am2, am3, ax1, ax2, ax3, bf1, bf2, bf3, bk1, bk2, bk3, bm1, bm2, bm3, bx1, bx2, bx3, es⟩ := f6
      go_simp
      exact hK _ _ z5 (fun _ _ h => h) ⟨_, _, _, _, _, _, _, _, _, _, _, _, rfl⟩
    | 9, ho =>
      cases ho
      refine wpOp_of rfl rfl ?_
      have f6 : ∃ (af1 af2 af3 : Bool) (ak1 ak2 ak3 : Option Addr) (am1 am2 am3 ax1 ax2 ax3 : Nat) (bf1 bf2 bf3 : Bool) (bk1 bk2 bk3 : Option Addr) (bm1 bm2 bm3 bx1 bx2 bx3 : Nat), (aq.tmps.getD 67 undef) = .tuple #[.int .i64 K4, .agg #[.bool af1, .slice ak1 am1 ax1, .bool af2, .slice ak2 am2 ax2, .bool af3, .slice ak3 am3 ax3], .agg #[.bool bf1, .slice bk1 bm1 bx1, .bool bf2, .slice bk2 bm2 bx2, .bool bf3, .slice bk3 bm3 bx3]] := z6 6 67 (hall { on := 6, ground := Ground.data } (by simp) rfl) rfl
      have hK := fun (v : Value) (W2 : World) hW hT hv => hJ2.put hS 9 76 rfl (by omega) (W' := W2) hW hT v hv
      clear ho hall hl hQ
      generalize InvQ w0.heap.size [some 68, some 69, some 70, some 71, some 72, some 73, some 67, some 74, some 75, some 76, some 10, some 11, some 9, none, none] (VfrU m ca A of k a b c d p q u r K4 w0.heap.size) w0 a0 (lq.setIfInBounds 9 true) = K at hK ⊢
      clear hJ2 hS z1 z2 z3 z4 z6 z7
      obtain ⟨af1, af2, af3, ak1, ak2, ak3, am1, am2, am3, ax1, ax2, ax3, bf1, bf2, bf3, bk1, bk2, bk3, bm1, bm2, bm3, bx1, bx2, bx3, es⟩ := f6
      go_simp
      exact hK _ _ z5 (fun _ _ h => h) ⟨_, _, _, _, _, _, _, _, _, _, _, _, rfl⟩
    | 10, ho =>
      cases ho
      refine wpOp_of rfl rfl ?_
      have hK := fun (v : Value) (W2 : World) hW hT hv => hJ2.put hS 10 10 rfl (by omega) (W' := W2) hW hT v hv
      clear ho hall hl hQ
      generalize InvQ w0.heap.size [some 68, some 69, some 70, some 71, some 72, some 73, some 67, some 74, some 75, some 76, some 10, some 11, some 9, none, none] (VfrU m ca A of k a b c d p q u r K4 w0.heap.size) w0 a0 (lq.setIfInBounds 10 true) = K at hK ⊢
      clear hJ2 hS z1 z2 z3 z4 z6 z7
      go_simp
      exact hK _ _ (z5.alloc z5.size _) (fun _ _ h => h.mono ((Below.refl _ _).alloc (Nat.le_refl _) _)) ⟨_, rfl, z5.size, _, _, _, _, _, _, Blk.new W [.bool false, .slice none 0 0, .bool false, .slice none 0 0, .bool false, .slice none 0 0] _ rfl⟩
    | 11, ho =>
      cases ho
      refine wpOp_of rfl rfl ?_
      have hK := fun (v : Value) (W2 : World) hW hT hv => hJ2.put hS 11 11 rfl (by omega) (W' := W2) hW hT v hv
      clear ho hall hl hQ
      generalize InvQ w0.heap.size [some 68, some 69, some 70, some 71, some 72, some 73, some 67, some 74, some 75, some 76, some 10, some 11, some 9, none, none] (VfrU m ca A of k a b c d p q u r K4 w0.heap.size) w0 a0 (lq.setIfInBounds 11 true) = K at hK ⊢
      clear hJ2 hS z1 z2 z3 z4 z6 z7
      go_simp
      exact hK _ _ (z5.alloc z5.size _) (fun _ _ h => h.mono ((Below.refl _ _).alloc (Nat.le_refl _) _)) ⟨_, rfl, z5.size, _, _, _, _, _, _, Blk.new W [.bool false, .slice none 0 0, .bool false, .slice none 0 0, .bool false, .slice none 0 0] _ rfl⟩
    | 12, ho =>
      cases ho
      refine wpOp_of rfl rfl ?_
      have f7 : (aq.tmps.getD 74 undef) = .int .i64 K4 := z6 7 74 (hall { on := 7, ground := Ground.data } (by simp) rfl) rfl
      have hK := fun (v : Value) (W2 : World) hW hT hv => hJ2.put hS 12 9 rfl (by omega) (W' := W2) hW hT v hv
      clear ho hall hl hQ
      generalize InvQ w0.heap.size [some 68, some 69, some 70, some 71, some 72, some 73, some 67, some 74, some 75, some 76, some 10, some 11, some 9, none, none] (VfrU m ca A of k a b c d p q u r K4 w0.heap.size) w0 a0 (lq.setIfInBounds 12 true) = K at hK ⊢
      clear hJ2 hS z1 z2 z3 z4 z6 z7
      go_simp
      exact hK _ _ z5 (fun _ _ h => h) rfl
    | 13, ho =>
      cases ho
      refine wpOp_of rfl rfl ?_
      have f10 : ∃ gz, (aq.tmps.getD 10 undef) = .pointer (some ⟨gz, 0, none⟩) ∧ w0.heap.size ≤ gz ∧ ∃ z0 z1 z2 z3 z4 z5, Blk W gz [z0, z1, z2, z3, z4, z5] := z6 10 10 (hall { on := 10, ground := Ground.data } (by simp) rfl) rfl
      have f8 : ∃ (af1 af2 af3 : Bool) (ak1 ak2 ak3 : Option Addr) (am1 am2 am3 ax1 ax2 ax3 : Nat), (aq.tmps.getD 75 undef) = .agg #[.bool af1, .slice ak1 am1 ax1, .bool af2, .slice ak2 am2 ax2, .bool af3, .slice ak3 am3 ax3] := z6 8 75 (hall { on := 8, ground := Ground.data } (by simp) rfl) rfl
      have hK := fun (W2 : World) hW hT hv => hJ2.world 13 rfl (W' := W2) hW hT hv
      clear ho hall hl hQ
      generalize InvQ w0.heap.size [some 68, some 69, some 70, some 71, some 72, some 73, some 67, some 74, some 75, some 76, some 10, some 11, some 9, none, none] (VfrU m ca A of k a b c d p q u r K4 w0.heap.size) w0 a0 (lq.setIfInBounds 13 true) = K at hK ⊢
      clear hJ2 hS z1 z2 z3 z4 z6 z7
      obtain ⟨af1, af2, af3, ak1, ak2, ak3, am1, am2, am3, ax1, ax2, ax3, es⟩ := f8
      obtain ⟨gz, e10, hgz, z0q, z1q, z2q, z3q, z4q, z5q, GZ⟩ := f10
      have gl := GZ.lt
      have c0z := GZ.c 0 rfl; have d0z := GZ.f 0 rfl; have c1z := GZ.c 1 rfl; have d1z := GZ.f 1 rfl; have c2z := GZ.c 2 rfl; have d2z := GZ.f 2 rfl; have c3z := GZ.c 3 rfl; have d3z := GZ.f 3 rfl; have c4z := GZ.c 4 rfl; have d4z := GZ.f 4 rfl; have c5z := GZ.c 5 rfl; have d5z := GZ.f 5 rfl
      have NB : Blk ((((((W.setCell ⟨gz, 0, none⟩ (.bool af1)).setCell ⟨gz, 1, none⟩ (.slice ak1 am1 ax1)).setCell ⟨gz, 2, none⟩ (.bool af2)).setCell ⟨gz, 3, none⟩ (.slice ak2 am2 ax2)).setCell ⟨gz, 4, none⟩ (.bool af3)).setCell ⟨gz, 5, none⟩ (.slice ak3 am3 ax3)) gz [.bool af1, .slice ak1 am1 ax1, .bool af2, .slice ak2 am2 ax2, .bool af3, .slice ak3 am3 ax3] := ((((((GZ.setI 0 (by simp) (.bool af1)).setI 1 (by simp) (.slice ak1 am1 ax1)).setI 2 (by simp) (.bool af2)).setI 3 (by simp) (.slice ak2 am2 ax2)).setI 4 (by simp) (.bool af3)).setI 5 (by simp) (.slice ak3 am3 ax3))
      have NO : ∀ g vs, g ≠ gz → Blk W g vs → Blk ((((((W.setCell ⟨gz, 0, none⟩ (.bool af1)).setCell ⟨gz, 1, none⟩ (.slice ak1 am1 ax1)).setCell ⟨gz, 2, none⟩ (.bool af2)).setCell ⟨gz, 3, none⟩ (.slice ak2 am2 ax2)).setCell ⟨gz, 4, none⟩ (.bool af3)).setCell ⟨gz, 5, none⟩ (.slice ak3 am3 ax3)) g vs := fun g vs hg hb => hb.set6 hg
      have NL : Below w0.heap.size w0 ((((((W.setCell ⟨gz, 0, none⟩ (.bool af1)).setCell ⟨gz, 1, none⟩ (.slice ak1 am1 ax1)).setCell ⟨gz, 2, none⟩ (.bool af2)).setCell ⟨gz, 3, none⟩ (.slice ak2 am2 ax2)).setCell ⟨gz, 4, none⟩ (.bool af3)).setCell ⟨gz, 5, none⟩ (.slice ak3 am3 ax3)) := ((((((z5.setCell (p := ⟨gz, 0, none⟩) hgz _).setCell (p := ⟨gz, 1, none⟩) hgz _).setCell (p := ⟨gz, 2, none⟩) hgz _).setCell (p := ⟨gz, 3, none⟩) hgz _).setCell (p := ⟨gz, 4, none⟩) hgz _).setCell (p := ⟨gz, 5, none⟩) hgz _)
      clear GZ
      go_simp
      exact hK _ NL (fun _ _ h => VfrU.put NO ⟨_, _, _, _, _, _, NB⟩ h) trivial
    | 14, ho =>
      cases ho
      refine wpOp_of rfl rfl ?_
      have f11 : ∃ gz, (aq.tmps.getD 11 undef) = .pointer (some ⟨gz, 0, none⟩) ∧ w0.heap.size ≤ gz ∧ ∃ z0 z1 z2 z3 z4 z5, Blk W gz [z0, z1, z2, z3, z4, z5] := z6 11 11 (hall { on := 11, ground := Ground.data } (by simp) rfl) rfl
      have f9 : ∃ (af1 af2 af3 : Bool) (ak1 ak2 ak3 : Option Addr) (am1 am2 am3 ax1 ax2 ax3 : Nat), (aq.tmps.getD 76 undef) = .agg #[.bool af1, .slice ak1 am1 ax1, .bool af2, .slice ak2 am2 ax2, .bool af3, .slice ak3 am3 ax3] := z6 9 76 (hall { on := 9, ground := Ground.data } (by simp) rfl) rfl
      have hK := fun (W2 : World) hW hT hv => hJ2.world 14 rfl (W' := W2) hW hT hv
      clear ho hall hl hQ
      generalize InvQ w0.heap.size [some 68, some 69, some 70, some 71, some 72, some 73, some 67, some 74, some 75, some 76, some 10, some 11, some 9, none, none] (VfrU m ca A of k a b c d p q u r K4 w0.heap.size) w0 a0 (lq.setIfInBounds 14 true) = K at hK ⊢
      clear hJ2 hS z1 z2 z3 z4 z6 z7
      obtain ⟨af1, af2, af3, ak1, ak2, ak3, am1, am2, am3, ax1, ax2, ax3, es⟩ := f9
      obtain ⟨gz, e10, hgz, z0q, z1q, z2q, z3q, z4q, z5q, GZ⟩ := f11
      have gl := GZ.lt
      have c0z := GZ.c 0 rfl; have d0z := GZ.f 0 rfl; have c1z := GZ.c 1 rfl; have d1z := GZ.f 1 rfl; have c2z := GZ.c 2 rfl; have d2z := GZ.f 2 rfl; have c3z := GZ.c 3 rfl; have d3z := GZ.f 3 rfl; have c4z := GZ.c 4 rfl; have d4z := GZ.f 4 rfl; have c5z := GZ.c 5 rfl; have d5z := GZ.f 5 rfl
      have NB : Blk ((((((W.setCell ⟨gz, 0, none⟩ (.bool af1)).setCell ⟨gz, 1, none⟩ (.slice ak1 am1 ax1)).setCell ⟨gz, 2, none⟩ (.bool af2)).setCell ⟨gz, 3, none⟩ (.slice ak2 am2 ax2)).setCell ⟨gz, 4, none⟩ (.bool af3)).setCell ⟨gz, 5, none⟩ (.slice ak3 am3 ax3)) gz [.bool af1, .slice ak1 am1 ax1, .bool af2, .slice ak2 am2 ax2, .bool af3, .slice ak3 am3 ax3] := ((((((GZ.setI 0 (by simp) (.bool af1)).setI 1 (by simp) (.slice ak1 am1 ax1)).setI 2 (by simp) (.bool af2)).setI 3 (by simp) (.slice ak2 am2 ax2)).setI 4 (by simp) (.bool af3)).setI 5 (by simp) (.slice ak3 am3 ax3))
      have NO : ∀ g vs, g ≠ gz → Blk W g vs → Blk ((((((W.setCell ⟨gz, 0, none⟩ (.bool af1)).setCell ⟨gz, 1, none⟩ (.slice ak1 am1 ax1)).setCell ⟨gz, 2, none⟩ (.bool af2)).setCell ⟨gz, 3, none⟩ (.slice ak2 am2 ax2)).setCell ⟨gz, 4, none⟩ (.bool af3)).setCell ⟨gz, 5, none⟩ (.slice ak3 am3 ax3)) g vs := fun g vs hg hb => hb.set6 hg
      have NL : Below w0.heap.size w0 ((((((W.setCell ⟨gz, 0, none⟩ (.bool af1)).setCell ⟨gz, 1, none⟩ (.slice ak1 am1 ax1)).setCell ⟨gz, 2, none⟩ (.bool af2)).setCell ⟨gz, 3, none⟩ (.slice ak2 am2 ax2)).setCell ⟨gz, 4, none⟩ (.bool af3)).setCell ⟨gz, 5, none⟩ (.slice ak3 am3 ax3)) := ((((((z5.setCell (p := ⟨gz, 0, none⟩) hgz _).setCell (p := ⟨gz, 1, none⟩) hgz _).setCell (p := ⟨gz, 2, none⟩) hgz _).setCell (p := ⟨gz, 3, none⟩) hgz _).setCell (p := ⟨gz, 4, none⟩) hgz _).setCell (p := ⟨gz, 5, none⟩) hgz _)
      clear GZ
      go_simp
      exact hK _ NL (fun _ _ h => VfrU.put NO ⟨_, _, _, _, _, _, NB⟩ h) trivial
    | iq + 15, ho => simp at ho
  · intro lq aq W hJ hr
    obtain ⟨z1, z2, z3, z4, z5, z6, z7⟩ := hJ
    have hl := listed_of hr [0, 1, 2, 3, 4, 5, 6, 7, 10, 11, 12] [] (by simp) (by kernel_rfl) (by rw [z1]; decide)
    exact hQ aq W z2 z3 (fun e he => z4 e (by simpa using he)) (z6 12 9 (hl 12 (by simp)) rfl) z5
end Go.Proofs.Ytmjlgmoohpnhfaa

/- A segment of two spots: the model's walk. -/
namespace Go.Proofs.Ytmjlgmoohpnhfaa
open Go.RowKit
set_option maxRecDepth 100000 in
set_option maxHeartbeats 400000 in
theorem specSegOf_any (x y u v A B C D : Int) (l k : Bool) (hl : lessI u v x y = l) (hk : segOk A B C D = k) (hA : cond l u x = A) (hB : cond l v y = B) (hC : cond l x u = C) (hD : cond l y v = D) (w : World) :
    Calls Try.prog 71 #[Sp x y, Sp u v] w (VP (.tuple #[Sg (cond k A 0) (cond k B 0) (cond k C 0) (cond k D 0), .bool k]) w) := by
  cases l <;> simp only [cond_true, cond_false] at hA hB hC hD <;> subst hA hB hC hD
  · have B0 := Blk.new w [.int .i64 x, .int .i64 y] 55 rfl
    have HB0 : Below w.heap.size w _ := (Below.refl _ w).alloc (Nat.le_refl _) (.cells #[.int .i64 x, .int .i64 y] 55)
    have B1 := Blk.new (w.alloc (.cells #[.int .i64 x, .int .i64 y] 55)) [.int .i64 u, .int .i64 v] 55 (g := w.heap.size + 1) (by simp)
    replace B0 := B0.alloc (.cells #[.int .i64 u, .int .i64 v] 55)
    replace HB0 := HB0.alloc (by simp) (.cells #[.int .i64 u, .int .i64 v] 55)
    have B2 := Blk.new ((w.alloc (.cells #[.int .i64 x, .int .i64 y] 55)).alloc (.cells #[.int .i64 u, .int .i64 v] 55)) [.int .i64 0, .int .i64 0, .int .i64 0, .int .i64 0] 103 (g := w.heap.size + 1 + 1) (by simp)
    replace B0 := B0.alloc (.cells #[.int .i64 0, .int .i64 0, .int .i64 0, .int .i64 0] 103)
    replace B1 := B1.alloc (.cells #[.int .i64 0, .int .i64 0, .int .i64 0, .int .i64 0] 103)
    replace HB0 := HB0.alloc (by simp; omega) (.cells #[.int .i64 0, .int .i64 0, .int .i64 0, .int .i64 0] 103)
    go_enter Try.func71, Try.ntmps71
    go_wp2_with fail
    refine (l4Less_any _ _ _ _ false hl _).mono ?_
    rintro e w1 ⟨rfl, hB⟩
    replace B0 := B0.step hB; replace B1 := B1.step hB; replace B2 := B2.step hB
    have HB : Below w.heap.size w w1 := HB0.trans (hB.mono HB0.size)
    clear hB HB0
    have cB00 := B0.c 0 rfl; have fB00 := B0.f 0 rfl; have cB01 := B0.c 1 rfl; have fB01 := B0.f 1 rfl; have cB10 := B1.c 0 rfl; have fB10 := B1.f 0 rfl; have cB11 := B1.c 1 rfl; have fB11 := B1.f 1 rfl; have cB20 := B2.c 0 rfl; have fB20 := B2.f 0 rfl; have cB21 := B2.c 1 rfl; have fB21 := B2.f 1 rfl; have cB22 := B2.c 2 rfl; have fB22 := B2.f 2 rfl; have cB23 := B2.c 3 rfl; have fB23 := B2.f 3 rfl; have ltB0 := B0.lt; have ltB1 := B1.lt; have ltB2 := B2.lt
    go_wp2_with fail
    have D2 := B2.alloc (.cells #[.int .i64 x, .int .i64 y, .int .i64 u, .int .i64 v] 103)
    have D3 := Blk.new w1 [.int .i64 x, .int .i64 y, .int .i64 u, .int .i64 v] 103 rfl
    have HC := HB.alloc HB.size (.cells #[.int .i64 x, .int .i64 y, .int .i64 u, .int .i64 v] 103)
    refine (specSegOk_any _ _ _ _ k hk _).mono ?_
    rintro e w2 ⟨rfl, hB⟩
    replace D2 := D2.step hB
    replace D3 := D3.step hB
    have HD : Below w.heap.size w w2 := HC.trans (hB.mono HC.size)
    clear hB HC HB B0 B1 B2 cB00 fB00 cB01 fB01 cB10 fB10 cB11 fB11 cB20 fB20 cB21 fB21 cB22 fB22 cB23 fB23 ltB0 ltB1 ltB2
    have cD20 := D2.c 0 rfl; have fD20 := D2.f 0 rfl; have cD21 := D2.c 1 rfl; have fD21 := D2.f 1 rfl; have cD22 := D2.c 2 rfl; have fD22 := D2.f 2 rfl; have cD23 := D2.c 3 rfl; have fD23 := D2.f 3 rfl; have cD30 := D3.c 0 rfl; have fD30 := D3.f 0 rfl; have cD31 := D3.c 1 rfl; have fD31 := D3.f 1 rfl; have cD32 := D3.c 2 rfl; have fD32 := D3.f 2 rfl; have cD33 := D3.c 3 rfl; have fD33 := D3.f 3 rfl
    have ltD2 := D2.lt; have ltD3 := D3.lt
    cases k
    · go_wp2
      refine bodyPost_ret (v := .tuple #[Sg 0 0 0 0, .bool false]) (by simp [results, Try.results71, go_sem, cD20, cD21, cD22, cD23]) rfl ?_
      refine ⟨rfl, ?_⟩
      repeat' (refine Below.setCell ?_ (by simp; try omega) _)
      exact HD
    · go_wp2
      refine bodyPost_ret (v := .tuple #[Sg x y u v, .bool true]) (by simp [results, Try.results71, go_sem, cD20, cD21, cD22, cD23]) rfl ?_
      refine ⟨rfl, ?_⟩
      repeat' (refine Below.setCell ?_ (by simp; try omega) _)
      exact HD
  · have B0 := Blk.new w [.int .i64 x, .int .i64 y] 55 rfl
    have HB0 : Below w.heap.size w _ := (Below.refl _ w).alloc (Nat.le_refl _) (.cells #[.int .i64 x, .int .i64 y] 55)
    have B1 := Blk.new (w.alloc (.cells #[.int .i64 x, .int .i64 y] 55)) [.int .i64 u, .int .i64 v] 55 (g := w.heap.size + 1) (by simp)
    replace B0 := B0.alloc (.cells #[.int .i64 u, .int .i64 v] 55)
    replace HB0 := HB0.alloc (by simp) (.cells #[.int .i64 u, .int .i64 v] 55)
    have B2 := Blk.new ((w.alloc (.cells #[.int .i64 x, .int .i64 y] 55)).alloc (.cells #[.int .i64 u, .int .i64 v] 55)) [.int .i64 0, .int .i64 0, .int .i64 0, .int .i64 0] 103 (g := w.heap.size + 1 + 1) (by simp)
    replace B0 := B0.alloc (.cells #[.int .i64 0, .int .i64 0, .int .i64 0, .int .i64 0] 103)
    replace B1 := B1.alloc (.cells #[.int .i64 0, .int .i64 0, .int .i64 0, .int .i64 0] 103)
    replace HB0 := HB0.alloc (by simp; omega) (.cells #[.int .i64 0, .int .i64 0, .int .i64 0, .int .i64 0] 103)
    go_enter Try.func71, Try.ntmps71
    go_wp2_with fail
    refine (l4Less_any _ _ _ _ true hl _).mono ?_
    rintro e w1 ⟨rfl, hB⟩
    replace B0 := B0.step hB; replace B1 := B1.step hB; replace B2 := B2.step hB
    have HB : Below w.heap.size w w1 := HB0.trans (hB.mono HB0.size)
    clear hB HB0
    have cB00 := B0.c 0 rfl; have fB00 := B0.f 0 rfl; have cB01 := B0.c 1 rfl; have fB01 := B0.f 1 rfl; have cB10 := B1.c 0 rfl; have fB10 := B1.f 0 rfl; have cB11 := B1.c 1 rfl; have fB11 := B1.f 1 rfl; have cB20 := B2.c 0 rfl; have fB20 := B2.f 0 rfl; have cB21 := B2.c 1 rfl; have fB21 := B2.f 1 rfl; have cB22 := B2.c 2 rfl; have fB22 := B2.f 2 rfl; have cB23 := B2.c 3 rfl; have fB23 := B2.f 3 rfl; have ltB0 := B0.lt; have ltB1 := B1.lt; have ltB2 := B2.lt
    go_wp2_with fail
    have D2 := ((((B2.setO (p := ⟨w.heap.size, 0, none⟩) (by simp; omega) (.int .i64 u)).setO (p := ⟨w.heap.size, 1, none⟩) (by simp; omega) (.int .i64 v)).setO (p := ⟨w.heap.size + 1, 0, none⟩) (by simp) (.int .i64 x)).setO (p := ⟨w.heap.size + 1, 1, none⟩) (by simp) (.int .i64 y)).alloc (.cells #[.int .i64 u, .int .i64 v, .int .i64 x, .int .i64 y] 103)
    have HC := ((((HB.setCell (p := ⟨w.heap.size, 0, none⟩) (by simp) (.int .i64 u)).setCell (p := ⟨w.heap.size, 1, none⟩) (by simp) (.int .i64 v)).setCell (p := ⟨w.heap.size + 1, 0, none⟩) (by simp) (.int .i64 x)).setCell (p := ⟨w.heap.size + 1, 1, none⟩) (by simp) (.int .i64 y))
    have D3 := Blk.new ((((w1.setCell ⟨w.heap.size, 0, none⟩ (.int .i64 u)).setCell ⟨w.heap.size, 1, none⟩ (.int .i64 v)).setCell ⟨w.heap.size + 1, 0, none⟩ (.int .i64 x)).setCell ⟨w.heap.size + 1, 1, none⟩ (.int .i64 y)) [.int .i64 u, .int .i64 v, .int .i64 x, .int .i64 y] 103 (g := w1.heap.size) (by simp [World.setCell])
    replace HC := HC.alloc (by have := HB.size; simpa [World.setCell] using this) (.cells #[.int .i64 u, .int .i64 v, .int .i64 x, .int .i64 y] 103)
    refine (specSegOk_any _ _ _ _ k hk _).mono ?_
    rintro e w2 ⟨rfl, hB⟩
    replace D2 := D2.step hB
    replace D3 := D3.step hB
    have HD : Below w.heap.size w w2 := HC.trans (hB.mono HC.size)
    clear hB HC HB B0 B1 B2 cB00 fB00 cB01 fB01 cB10 fB10 cB11 fB11 cB20 fB20 cB21 fB21 cB22 fB22 cB23 fB23 ltB0 ltB1 ltB2
    have cD20 := D2.c 0 rfl; have fD20 := D2.f 0 rfl; have cD21 := D2.c 1 rfl; have fD21 := D2.f 1 rfl; have cD22 := D2.c 2 rfl; have fD22 := D2.f 2 rfl; have cD23 := D2.c 3 rfl; have fD23 := D2.f 3 rfl; have cD30 := D3.c 0 rfl; have fD30 := D3.f 0 rfl; have cD31 := D3.c 1 rfl; have fD31 := D3.f 1 rfl; have cD32 := D3.c 2 rfl; have fD32 := D3.f 2 rfl; have cD33 := D3.c 3 rfl; have fD33 := D3.f 3 rfl
    have ltD2 := D2.lt; have ltD3 := D3.lt
    cases k
    · go_wp2
      refine bodyPost_ret (v := .tuple #[Sg 0 0 0 0, .bool false]) (by simp [results, Try.results71, go_sem, cD20, cD21, cD22, cD23]) rfl ?_
      refine ⟨rfl, ?_⟩
      repeat' (refine Below.setCell ?_ (by simp; try omega) _)
      exact HD
    · go_wp2
      refine bodyPost_ret (v := .tuple #[Sg u v x y, .bool true]) (by simp [results, Try.results71, go_sem, cD20, cD21, cD22, cD23]) rfl ?_
      refine ⟨rfl, ?_⟩
      repeat' (refine Below.setCell ?_ (by simp; try omega) _)
      exact HD
end Go.Proofs.Ytmjlgmoohpnhfaa
