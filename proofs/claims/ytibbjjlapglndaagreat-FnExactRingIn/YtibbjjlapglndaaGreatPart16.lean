/- Part 16 of the walks that the proof leans on. -/
import Derived.Test.YtibbjjlapglndaaGreatPart11
import Derived.Test.YtibbjjlapglndaaGreatPart15
import Derived.Test.YtibbjjlapglndaaGreatPart7
import Derived.Test.YtibbjjlapglndaaGreatPart5
import Derived.Test.YtibbjjlapglndaaGreatPart12
import Derived.Test.YtibbjjlapglndaaGreatPart4
import Derived.SizedLaws
import Derived.Deep.Slices
import Derived.Test.YtibbjjlapglndaaGreatRows
import Derived.ProofKit
import Derived.Lib.SmallJoins
/- On which side of a ring a point lies: the model's walk. -/
namespace Go.Proofs.YtibbjjlapglndaaGreat
open Go.RowKit
/-- A point of the model, by its numbers. -/
def L3W (x y z : Int) (v : Value) (W : World) : Prop :=
  ∃ (s1 : Bool) (o1 : Option Addr) (n1 c1 : Nat) (d1 : List Int) (s2 : Bool) (o2 : Option Addr) (n2 c2 : Nat) (d2 : List Int) (s3 : Bool) (o3 : Option Addr) (n3 c3 : Nat) (d3 : List Int), v = .agg #[.bool s1, .slice o1 n1 c1, .bool s2, .slice o2 n2 c2, .bool s3, .slice o3 n3 c3] ∧ IsNum W s1 o1 n1 c1 d1 x 8 ∧ IsNum W s2 o2 n2 c2 d2 y 8 ∧ IsNum W s3 o3 n3 c3 d3 z 8
theorem L3W.step {x y z : Int} {v : Value} {W W2 : World} (h : L3W x y z v W) (hB : Below W.heap.size W W2) : L3W x y z v W2 := by
  obtain ⟨s1, o1, n1, c1, d1, s2, o2, n2, c2, d2, s3, o3, n3, c3, d3, e, N1, N2, N3⟩ := h
  exact ⟨s1, o1, n1, c1, d1, s2, o2, n2, c2, d2, s3, o3, n3, c3, d3, e, N1.below hB, N2.below hB, N3.below hB⟩
def VregCuts (a b c d x y z : Int) (Bs : Nat) (rs1 rs2 rs3 : Bool) (ro1 ro2 ro3 : Option Addr) (rn1 rc1 rn2 rc2 rn3 rc3 : Nat) (_B : Nat) : Nat → Value → World → Prop
  | 0, v, _ => v = .pointer (some ⟨Bs, 0, none⟩)
  | 1, v, _ => v = Sp a b
  | 2, v, W => L3W a b 1 v W
  | 3, v, _ => v = .pointer (some ⟨Bs, 2, none⟩)
  | 4, v, _ => v = Sp c d
  | 5, v, W => L3W c d 1 v W
  | 6, v, _ => v = .agg #[.bool rs1, .slice ro1 rn1 rc1, .bool rs2, .slice ro2 rn2 rc2, .bool rs3, .slice ro3 rn3 rc3]
  | 7, v, _ => v = .bool (ctB a b 1 c d 1 x y z)
  | _, _, _ => True
theorem VregCuts.mono {a b c d x y z : Int} {Bs : Nat} {rs1 rs2 rs3 : Bool} {ro1 ro2 ro3 : Option Addr} {rn1 rc1 rn2 rc2 rn3 rc3 : Nat} {B j : Nat} {v : Value} {W W2 : World} (hB : Below W.heap.size W W2) (h : VregCuts a b c d x y z Bs rs1 rs2 rs3 ro1 ro2 ro3 rn1 rc1 rn2 rc2 rn3 rc3 B j v W) : VregCuts a b c d x y z Bs rs1 rs2 rs3 ro1 ro2 ro3 rn1 rc1 rn2 rc2 rn3 rc3 B j v W2 := by
  unfold VregCuts at *
  split <;> simp only at h <;> first | exact h | exact h.step hB | trivial
set_option maxRecDepth 100000 in
set_option maxHeartbeats 4000000 in
theorem regCuts {Q : Exit → Act → World → Prop} {a b c d x y z : Int} {Bs : Nat} {rs1 rs2 rs3 : Bool} {ro1 ro2 ro3 : Option Addr} {rn1 rc1 rn2 rc2 rn3 rc3 : Nat} {Bp : Nat} {rd1 rd2 rd3 : List Int} {w0 : World} {a0 : Act} {idq : Nat} {t0 t1 t2 t3 t4 t5 t6 t7 : TypeId} {q0 q1 q2 q3 q4 q5 q6 q7 : String}
    (ia : -1000000 ≤ a ∧ a ≤ 1000000) (ib : -1000000 ≤ b ∧ b ≤ 1000000) (ic : -1000000 ≤ c ∧ c ≤ 1000000) (jd : -1000000 ≤ d ∧ d ≤ 1000000) (Nr1 : IsNum w0 rs1 ro1 rn1 rc1 rd1 x 8) (Nr2 : IsNum w0 rs2 ro2 rn2 rc2 rd2 y 8) (Nr3 : IsNum w0 rs3 ro3 rn3 rc3 rd3 z 8) (h3 : a0.tmps[3]? = some (.pointer (some ⟨Bp, 0, none⟩))) (h7 : a0.tmps[7]? = some (.pointer (some ⟨Bs, 0, none⟩))) (k0 : w0.cell? ⟨Bs, 0, none⟩ = some (.int .i64 a)) (l0 : (⟨Bs, 0, none⟩ : Addr).block < w0.heap.size) (k1 : w0.cell? ⟨Bs, 1, none⟩ = some (.int .i64 b)) (l1 : (⟨Bs, 1, none⟩ : Addr).block < w0.heap.size) (k2 : w0.cell? ⟨Bs, 2, none⟩ = some (.int .i64 c)) (l2 : (⟨Bs, 2, none⟩ : Addr).block < w0.heap.size) (k3 : w0.cell? ⟨Bs, 3, none⟩ = some (.int .i64 d)) (l3 : (⟨Bs, 3, none⟩ : Addr).block < w0.heap.size) (k4 : w0.cell? ⟨Bp, 0, none⟩ = some (.bool rs1)) (l4 : (⟨Bp, 0, none⟩ : Addr).block < w0.heap.size) (k5 : w0.cell? ⟨Bp, 1, none⟩ = some (.slice ro1 rn1 rc1)) (l5 : (⟨Bp, 1, none⟩ : Addr).block < w0.heap.size) (k6 : w0.cell? ⟨Bp, 2, none⟩ = some (.bool rs2)) (l6 : (⟨Bp, 2, none⟩ : Addr).block < w0.heap.size) (k7 : w0.cell? ⟨Bp, 3, none⟩ = some (.slice ro2 rn2 rc2)) (l7 : (⟨Bp, 3, none⟩ : Addr).block < w0.heap.size) (k8 : w0.cell? ⟨Bp, 4, none⟩ = some (.bool rs3)) (l8 : (⟨Bp, 4, none⟩ : Addr).block < w0.heap.size) (k9 : w0.cell? ⟨Bp, 5, none⟩ = some (.slice ro3 rn3 rc3)) (l9 : (⟨Bp, 5, none⟩ : Addr).block < w0.heap.size) (hz : a0.tmps.size = 32)
    (hQ : ∀ aq W, aq.tmps.size = a0.tmps.size → aq.defers = a0.defers → (∀ e, e ∉ ([21, 22, 23, 24, 25, 26, 27, 28] : List Nat) → aq.tmps[e]? = a0.tmps[e]?) → VregCuts a b c d x y z Bs rs1 rs2 rs3 ro1 ro2 ro3 rn1 rc1 rn2 rc2 rn3 rc3 w0.heap.size 7 (aq.tmps.getD 28 undef) W → Below w0.heap.size w0 W → Q .normal aq W) :
    (Code.region idq #[{ dst := some 21, op := Op.fieldAddr 83 (Operand.tmp 7) 0, type := t0, pos := q0, after := #[], guard := none },
    { dst := some 22, op := Op.load 81 (Operand.tmp 21), type := t1, pos := q1, after := #[{ on := 0, ground := Ground.data }], guard := none },
    { dst := some 23, op := Op.call { callee := Callee.value (Operand.func 58), args := #[Operand.tmp 22], argTypes := #[81] }, type := t2, pos := q2, after := #[{ on := 1, ground := Ground.data }], guard := none },
    { dst := some 24, op := Op.fieldAddr 83 (Operand.tmp 7) 1, type := t3, pos := q3, after := #[], guard := none },
    { dst := some 25, op := Op.load 81 (Operand.tmp 24), type := t4, pos := q4, after := #[{ on := 3, ground := Ground.data }], guard := none },
    { dst := some 26, op := Op.call { callee := Callee.value (Operand.func 58), args := #[Operand.tmp 25], argTypes := #[81] }, type := t5, pos := q5, after := #[{ on := 4, ground := Ground.data }, { on := 2, ground := Ground.chain }], guard := none },
    { dst := some 27, op := Op.load 62 (Operand.tmp 3), type := t6, pos := q6, after := #[], guard := none },
    { dst := some 28, op := Op.call { callee := Callee.value (Operand.func 57), args := #[Operand.tmp 23, Operand.tmp 26, Operand.tmp 27], argTypes := #[62, 62, 62] }, type := t7, pos := q7, after := #[{ on := 2, ground := Ground.data }, { on := 5, ground := Ground.data }, { on := 6, ground := Ground.data }, { on := 5, ground := Ground.chain }], guard := none }] true).wp Tryz.prog Q a0 w0 := by
  have hS : distS [some 21, some 22, some 23, some 24, some 25, some 26, some 27, some 28] = true := rfl
  refine wp_region_q (by kernel_rfl) w0.heap.size [some 21, some 22, some 23, some 24, some 25, some 26, some 27, some 28] (VregCuts a b c d x y z Bs rs1 rs2 rs3 ro1 ro2 ro3 rn1 rc1 rn2 rc2 rn3 rc3 w0.heap.size) rfl ?_ ?_
  · intro Q lq aq W iq oq hJ hl ho hall
    have hJ2 := hJ
    obtain ⟨z1, z2, z3, z4, z5, z6, z7⟩ := hJ
    have g3 : aq.tmps.getD 3 undef = .pointer (some ⟨Bp, 0, none⟩) := by rw [Array.getD_eq_getD_getElem?, z4 3 (by decide), h3]; rfl
    have g7 : aq.tmps.getD 7 undef = .pointer (some ⟨Bs, 0, none⟩) := by rw [Array.getD_eq_getD_getElem?, z4 7 (by decide), h7]; rfl
    have c0 : W.cell? ⟨Bs, 0, none⟩ = some (.int .i64 a) := (z5.cell l0).trans k0
    have c1 : W.cell? ⟨Bs, 1, none⟩ = some (.int .i64 b) := (z5.cell l1).trans k1
    have c2 : W.cell? ⟨Bs, 2, none⟩ = some (.int .i64 c) := (z5.cell l2).trans k2
    have c3 : W.cell? ⟨Bs, 3, none⟩ = some (.int .i64 d) := (z5.cell l3).trans k3
    have c4 : W.cell? ⟨Bp, 0, none⟩ = some (.bool rs1) := (z5.cell l4).trans k4
    have c5 : W.cell? ⟨Bp, 1, none⟩ = some (.slice ro1 rn1 rc1) := (z5.cell l5).trans k5
    have c6 : W.cell? ⟨Bp, 2, none⟩ = some (.bool rs2) := (z5.cell l6).trans k6
    have c7 : W.cell? ⟨Bp, 3, none⟩ = some (.slice ro2 rn2 rc2) := (z5.cell l7).trans k7
    have c8 : W.cell? ⟨Bp, 4, none⟩ = some (.bool rs3) := (z5.cell l8).trans k8
    have c9 : W.cell? ⟨Bp, 5, none⟩ = some (.slice ro3 rn3 rc3) := (z5.cell l9).trans k9
    match iq, ho with
    | 0, ho =>
      cases ho
      refine wpOp_of rfl rfl ?_
      have hK := fun (v : Value) (W2 : World) hW hT hv => hJ2.put hS 0 21 rfl (by omega) (W' := W2) hW hT v hv
      clear ho hall hl hQ
      generalize InvQ w0.heap.size [some 21, some 22, some 23, some 24, some 25, some 26, some 27, some 28] (VregCuts a b c d x y z Bs rs1 rs2 rs3 ro1 ro2 ro3 rn1 rc1 rn2 rc2 rn3 rc3 w0.heap.size) w0 a0 (lq.setIfInBounds 0 true) = K at hK ⊢
      clear hJ2 hS z1 z2 z3 z4 z6 z7
      go_simp
      exact hK _ _ z5 (fun _ _ h => h) rfl
    | 1, ho =>
      cases ho
      refine wpOp_of rfl rfl ?_
      have f0 : (aq.tmps.getD 21 undef) = .pointer (some ⟨Bs, 0, none⟩) := z6 0 21 (hall { on := 0, ground := Ground.data } (by simp) rfl) rfl
      have hK := fun (v : Value) (W2 : World) hW hT hv => hJ2.put hS 1 22 rfl (by omega) (W' := W2) hW hT v hv
      clear ho hall hl hQ
      generalize InvQ w0.heap.size [some 21, some 22, some 23, some 24, some 25, some 26, some 27, some 28] (VregCuts a b c d x y z Bs rs1 rs2 rs3 ro1 ro2 ro3 rn1 rc1 rn2 rc2 rn3 rc3 w0.heap.size) w0 a0 (lq.setIfInBounds 1 true) = K at hK ⊢
      clear hJ2 hS z1 z2 z3 z4 z6 z7
      go_simp
      exact hK _ _ z5 (fun _ _ h => h) rfl
    | 2, ho =>
      cases ho
      refine wpOp_of rfl rfl ?_
      have f1 : (aq.tmps.getD 22 undef) = Sp a b := z6 1 22 (hall { on := 1, ground := Ground.data } (by simp) rfl) rfl
      have hK := fun (v : Value) (W2 : World) hW hT hv => hJ2.put hS 2 23 rfl (by omega) (W' := W2) hW hT v hv
      clear ho hall hl hQ
      generalize InvQ w0.heap.size [some 21, some 22, some 23, some 24, some 25, some 26, some 27, some 28] (VregCuts a b c d x y z Bs rs1 rs2 rs3 ro1 ro2 ro3 rn1 rc1 rn2 rc2 rn3 rc3 w0.heap.size) w0 a0 (lq.setIfInBounds 2 true) = K at hK ⊢
      clear hJ2 hS z1 z2 z3 z4 z6 z7
      go_simp
      refine (l3Spot_det a b ia ib W).mono ?_
      rintro e v1 ⟨s1, o1, n1, m1, e1, s2, o2, n2, m2, e2, s3, o3, n3, m3, e3, rfl, N1, N2, N3, hBv⟩
      exact hK _ _ (z5.trans (hBv.mono z5.size)) (fun j v h => h.mono hBv) ⟨_, _, _, _, _, _, _, _, _, _, _, _, _, _, _, rfl, N1, N2, N3⟩
    | 3, ho =>
      cases ho
      refine wpOp_of rfl rfl ?_
      have hK := fun (v : Value) (W2 : World) hW hT hv => hJ2.put hS 3 24 rfl (by omega) (W' := W2) hW hT v hv
      clear ho hall hl hQ
      generalize InvQ w0.heap.size [some 21, some 22, some 23, some 24, some 25, some 26, some 27, some 28] (VregCuts a b c d x y z Bs rs1 rs2 rs3 ro1 ro2 ro3 rn1 rc1 rn2 rc2 rn3 rc3 w0.heap.size) w0 a0 (lq.setIfInBounds 3 true) = K at hK ⊢
      clear hJ2 hS z1 z2 z3 z4 z6 z7
      go_simp
      exact hK _ _ z5 (fun _ _ h => h) rfl
    | 4, ho =>
      cases ho
      refine wpOp_of rfl rfl ?_
      have f3 : (aq.tmps.getD 24 undef) = .pointer (some ⟨Bs, 2, none⟩) := z6 3 24 (hall { on := 3, ground := Ground.data } (by simp) rfl) rfl
      have hK := fun (v : Value) (W2 : World) hW hT hv => hJ2.put hS 4 25 rfl (by omega) (W' := W2) hW hT v hv
      clear ho hall hl hQ
      generalize InvQ w0.heap.size [some 21, some 22, some 23, some 24, some 25, some 26, some 27, some 28] (VregCuts a b c d x y z Bs rs1 rs2 rs3 ro1 ro2 ro3 rn1 rc1 rn2 rc2 rn3 rc3 w0.heap.size) w0 a0 (lq.setIfInBounds 4 true) = K at hK ⊢
      clear hJ2 hS z1 z2 z3 z4 z6 z7
      go_simp
      exact hK _ _ z5 (fun _ _ h => h) rfl
    | 5, ho =>
      cases ho
      refine wpOp_of rfl rfl ?_
      have f4 : (aq.tmps.getD 25 undef) = Sp c d := z6 4 25 (hall { on := 4, ground := Ground.data } (by simp) rfl) rfl
      have hK := fun (v : Value) (W2 : World) hW hT hv => hJ2.put hS 5 26 rfl (by omega) (W' := W2) hW hT v hv
      clear ho hall hl hQ
      generalize InvQ w0.heap.size [some 21, some 22, some 23, some 24, some 25, some 26, some 27, some 28] (VregCuts a b c d x y z Bs rs1 rs2 rs3 ro1 ro2 ro3 rn1 rc1 rn2 rc2 rn3 rc3 w0.heap.size) w0 a0 (lq.setIfInBounds 5 true) = K at hK ⊢
      clear hJ2 hS z1 z2 z3 z4 z6 z7
      go_simp
      refine (l3Spot_det c d ic jd W).mono ?_
      rintro e v1 ⟨s1, o1, n1, m1, e1, s2, o2, n2, m2, e2, s3, o3, n3, m3, e3, rfl, N1, N2, N3, hBv⟩
      exact hK _ _ (z5.trans (hBv.mono z5.size)) (fun j v h => h.mono hBv) ⟨_, _, _, _, _, _, _, _, _, _, _, _, _, _, _, rfl, N1, N2, N3⟩
    | 6, ho =>
      cases ho
      refine wpOp_of rfl rfl ?_
      have hK := fun (v : Value) (W2 : World) hW hT hv => hJ2.put hS 6 27 rfl (by omega) (W' := W2) hW hT v hv
      clear ho hall hl hQ
      generalize InvQ w0.heap.size [some 21, some 22, some 23, some 24, some 25, some 26, some 27, some 28] (VregCuts a b c d x y z Bs rs1 rs2 rs3 ro1 ro2 ro3 rn1 rc1 rn2 rc2 rn3 rc3 w0.heap.size) w0 a0 (lq.setIfInBounds 6 true) = K at hK ⊢
      clear hJ2 hS z1 z2 z3 z4 z6 z7
      go_simp
      exact hK _ _ z5 (fun _ _ h => h) rfl
    | 7, ho =>
      cases ho
      refine wpOp_of rfl rfl ?_
      have f2 : L3W a b 1 (aq.tmps.getD 23 undef) W := z6 2 23 (hall { on := 2, ground := Ground.data } (by simp) rfl) rfl
      obtain ⟨ps1, po1, pn1, pc1, pd1, ps2, po2, pn2, pc2, pd2, ps3, po3, pn3, pc3, pd3, pe, P1, P2, P3⟩ := f2
      have f5 : L3W c d 1 (aq.tmps.getD 26 undef) W := z6 5 26 (hall { on := 5, ground := Ground.data } (by simp) rfl) rfl
      obtain ⟨qs1, qo1, qn1, qc1, qd1, qs2, qo2, qn2, qc2, qd2, qs3, qo3, qn3, qc3, qd3, qe, Q1, Q2, Q3⟩ := f5
      have f6 : (aq.tmps.getD 27 undef) = .agg #[.bool rs1, .slice ro1 rn1 rc1, .bool rs2, .slice ro2 rn2 rc2, .bool rs3, .slice ro3 rn3 rc3] := z6 6 27 (hall { on := 6, ground := Ground.data } (by simp) rfl) rfl
      have hK := fun (v : Value) (W2 : World) hW hT hv => hJ2.put hS 7 28 rfl (by omega) (W' := W2) hW hT v hv
      clear ho hall hl hQ
      generalize InvQ w0.heap.size [some 21, some 22, some 23, some 24, some 25, some 26, some 27, some 28] (VregCuts a b c d x y z Bs rs1 rs2 rs3 ro1 ro2 ro3 rn1 rc1 rn2 rc2 rn3 rc3 w0.heap.size) w0 a0 (lq.setIfInBounds 7 true) = K at hK ⊢
      clear hJ2 hS z1 z2 z3 z4 z6 z7
      go_simp
      refine (l5Cuts_any ps1 ps2 ps3 po1 po2 po3 pn1 pc1 pn2 pc2 pn3 pc3 qs1 qs2 qs3 qo1 qo2 qo3 qn1 qc1 qn2 qc2 qn3 qc3 rs1 rs2 rs3 ro1 ro2 ro3 rn1 rc1 rn2 rc2 rn3 rc3 pd1 pd2 pd3 qd1 qd2 qd3 rd1 rd2 rd3 a b 1 c d 1 x y z 8 (by omega) W P1 P2 P3 Q1 Q2 Q3 (Nr1.below z5) (Nr2.below z5) (Nr3.below z5)).mono ?_
      rintro e v1 ⟨rfl, hBv⟩
      exact hK _ _ (z5.trans (hBv.mono z5.size)) (fun j v h => h.mono hBv) rfl
    | iq + 8, ho => simp at ho
  · intro lq aq W hJ hr
    obtain ⟨z1, z2, z3, z4, z5, z6, z7⟩ := hJ
    have hl := listed_of hr [0, 1, 2, 3, 4, 5, 6, 7] [] (by simp) (by kernel_rfl) (by rw [z1]; decide)
    exact hQ aq W z2 z3 (fun e he => z4 e (by simpa using he)) (z6 7 28 (hl 7 (by simp)) rfl) z5
set_option maxRecDepth 100000 in
set_option maxHeartbeats 8000000 in
theorem l5In_any (ao : Option Addr) (n cap : Nat) (p : Ps) (rs1 rs2 rs3 : Bool) (ro1 ro2 ro3 : Option Addr) (rn1 rc1 rn2 rc2 rn3 rc3 : Nat) (rd1 rd2 rd3 : List Int) (x y z : Int) (hp : RgOk n p) (w : World) (hS : SpIn w ao n p) (Nr1 : IsNum w rs1 ro1 rn1 rc1 rd1 x 8) (Nr2 : IsNum w rs2 ro2 rn2 rc2 rd2 y 8) (Nr3 : IsNum w rs3 ro3 rn3 rc3 rd3 z 8) : Calls Tryz.prog 28 #[.agg #[.slice ao n cap], .agg #[.bool rs1, .slice ro1 rn1 rc1, .bool rs2, .slice ro2 rn2 rc2, .bool rs3, .slice ro3 rn3 rc3]] w (VP (.int .i64 (sdR n p x y z)) w) := by
  have A0 := (Blk.new w [.slice ao n cap] 34 rfl).alloc (.cells #[.bool rs1, .slice ro1 rn1 rc1, .bool rs2, .slice ro2 rn2 rc2, .bool rs3, .slice ro3 rn3 rc3] 62)
  have A1 := Blk.new (w.alloc (.cells #[.slice ao n cap] 34)) [.bool rs1, .slice ro1 rn1 rc1, .bool rs2, .slice ro2 rn2 rc2, .bool rs3, .slice ro3 rn3 rc3] 62 (g := w.heap.size + 1) (by simp)
  have HB0 : Below w.heap.size w ((w.alloc (.cells #[.slice ao n cap] 34)).alloc (.cells #[.bool rs1, .slice ro1 rn1 rc1, .bool rs2, .slice ro2 rn2 rc2, .bool rs3, .slice ro3 rn3 rc3] 62)) := ((Below.refl _ w).alloc (Nat.le_refl _) _).alloc (by simp) _
  have HP : Hid (RgOk n p) := hp
  have h12 := hp.h12
  have hnI : (n : Int) ≤ 12 := by omega
  have HS : Hid (SpIn ((w.alloc (.cells #[.slice ao n cap] 34)).alloc (.cells #[.bool rs1, .slice ro1 rn1 rc1, .bool rs2, .slice ro2 rn2 rc2, .bool rs3, .slice ro3 rn3 rc3] 62)) ao n p) := hS.step HB0
  replace Nr1 := Nr1.below HB0; replace Nr2 := Nr2.below HB0; replace Nr3 := Nr3.below HB0
  clear hS hp
  go_enter Tryz.func28, Tryz.ntmps28
  go_wp2_with fail
  generalize ((w.alloc (.cells #[.slice ao n cap] 34)).alloc (.cells #[.bool rs1, .slice ro1 rn1 rc1, .bool rs2, .slice ro2 rn2 rc2, .bool rs3, .slice ro3 rn3 rc3] 62)) = W1 at *
  go_loopw [5, 6] (fun o i wr => ∃ c : Nat, c ≤ n ∧ i = .int .i64 c ∧ o = .bool (ctR n p x y z c) ∧ onR n p x y z c = false ∧ Below W1.heap.size W1 wr) (fun _ i _ => n - (intOf i).toNat)
  case atStart => exact ⟨0, by omega, rfl, rfl, rfl, Below.refl _ _⟩
  case round =>
    obtain ⟨c, hc, rfl, rfl, hon, HB⟩ := hrel
    have HON : Hid (onR n p x y z c = false) := hon
    clear hon
    have b0 := (A0.step HB).c 0 rfl
    by_cases hcn : c < n
    · have hcI : (c : Int) < n := by omega
      have HSr := HS.out.step HB
      obtain ⟨i1, i2, i3, i4⟩ := in1_seg (side_ok HP.out.ok HP.out.one HP.out.h3 hcn)
      have LS := fun w h => l5Side_any ao n cap p c hcn (by omega) w h
      go_wp2_with fail
      refine (LS _ HSr).mono ?_
      rintro e w1 ⟨rfl, hB⟩
      replace HB := HB.trans (hB.mono HB.size)
      clear hB LS HSr b0
      have B2 := Blk.new w1 [.int .i64 (sdA n p c).1, .int .i64 (sdA n p c).2.1, .int .i64 (sdA n p c).2.2.1, .int .i64 (sdA n p c).2.2.2] 83 rfl
      have hB2 := (Below.refl w1.heap.size w1).alloc (Nat.le_refl _) (.cells #[.int .i64 (sdA n p c).1, .int .i64 (sdA n p c).2.1, .int .i64 (sdA n p c).2.2.1, .int .i64 (sdA n p c).2.2.2] 83)
      replace HB := HB.trans (hB2.mono HB.size)
      clear hB2
      go_upto_region 6 with fail
      generalize w1.alloc (.cells #[.int .i64 (sdA n p c).1, .int .i64 (sdA n p c).2.1, .int .i64 (sdA n p c).2.2.1, .int .i64 (sdA n p c).2.2.2] 83) = W2 at *
      generalize w1.heap.size = gs at *
      have D1 := A1.step HB
      have N1 := Nr1.below HB; have N2 := Nr2.below HB; have N3 := Nr3.below HB
      have ON := fun w h1 h2 h3 => l4On_any rs1 rs2 rs3 ro1 ro2 ro3 rn1 rc1 rn2 rc2 rn3 rc3 rd1 rd2 rd3 (sdA n p c).1 (sdA n p c).2.1 (sdA n p c).2.2.1 (sdA n p c).2.2.2 x y z i1 i2 i3 i4 w h1 h2 h3
      have s0 := B2.c 0 rfl; have s1 := B2.c 1 rfl; have s2 := B2.c 2 rfl; have s3 := B2.c 3 rfl
      have d0 := D1.c 0 rfl; have d1 := D1.c 1 rfl; have d2 := D1.c 2 rfl; have d3 := D1.c 3 rfl; have d4 := D1.c 4 rfl; have d5 := D1.c 5 rfl
      have hbt : btwS (sdA n p c).1 (sdA n p c).2.1 1 (sdA n p c).2.2.1 (sdA n p c).2.2.2 1 x y z = onE n p x y z c := rfl
      rw [hbt] at ON
      clear hbt
      go_wp2_with fail
      refine (ON _ N1 N2 N3).mono ?_
      rintro e w3 ⟨rfl, hB⟩
      replace HB := HB.trans (hB.mono HB.size)
      replace B2 := B2.step hB
      replace D1 := D1.step hB
      replace N1 := N1.below hB; replace N2 := N2.below hB; replace N3 := N3.below hB
      clear hB ON s0 s1 s2 s3 d0 d1 d2 d3 d4 d5
      cases he : onE n p x y z c
      · have HN : Hid (onR n p x y z (c + 1) = false) := by show _ = _; rw [onR, HON.out, he]; rfl
        clear he
        go_upto_region 8 with fail
        go_cut [28] (fun zv wx => zv = .bool (ctE n p x y z c) ∧ Below w3.heap.size w3 wx)
        case first =>
            clear HN HON HS Nr1 Nr2 Nr3 HP
            refine regCuts (a := (sdA n p c).1) (b := (sdA n p c).2.1) (c := (sdA n p c).2.2.1) (d := (sdA n p c).2.2.2) (x := x) (y := y) (z := z) (Bs := gs) (Bp := w.heap.size + 1) i1 i2 i3 i4 N1 N2 N3 rfl rfl (B2.c 0 rfl) B2.lt (B2.c 1 rfl) B2.lt (B2.c 2 rfl) B2.lt (B2.c 3 rfl) B2.lt (D1.c 0 rfl) D1.lt (D1.c 1 rfl) D1.lt (D1.c 2 rfl) D1.lt (D1.c 3 rfl) D1.lt (D1.c 4 rfl) D1.lt (D1.c 5 rfl) D1.lt rfl ?_
            rintro ⟨tm, df⟩ Wz hz hdf hoff h28 hBz
            simp only at hz hdf hoff h28
            change tm.getD 28 undef = .bool (ctE n p x y z c) at h28
            subst hdf
            have htm := tmps_fold [21, 22, 23, 24, 25, 26, 27, 28] tm _ hz hoff
            simp only [List.foldl, List.setIfInBounds_toArray, List.set_cons_zero, List.set_cons_succ, h28] at htm
            clear hz hoff
            generalize tm.getD 21 undef = u0, tm.getD 22 undef = u1, tm.getD 23 undef = u2, tm.getD 24 undef = u3, tm.getD 25 undef = u4, tm.getD 26 undef = u5, tm.getD 27 undef = u6 at htm
            clear h28
            subst htm
            go_wp2_with fail
            go_meet
            exact ⟨rfl, hBz⟩
        case rest =>
          obtain ⟨hq, hBc⟩ := hcut
          subst hq
          have HBN := HB.trans (hBc.mono HB.size)
          clear hBc HB B2 D1 N1 N2 N3 i1 i2 i3 i4
          have HX : Hid (ctR n p x y z (c + 1) = (ctR n p x y z c ^^ ctE n p x y z c)) := rfl
          cases hct : ctE n p x y z c
          · have HX2 : Hid (ctR n p x y z (c + 1) = ctR n p x y z c) := by show _ = _; rw [HX.out, hct, Bool.xor_false]
            clear hct HX
            go_wp2
            go_roundw
            case rel => exact ⟨c + 1, by omega, by go_num, by rw [HX2.out], HN.out, HBN⟩
            case measure => simp [intOf]; omega
          · have HX2 : Hid (ctR n p x y z (c + 1) = !(ctR n p x y z c)) := by show _ = _; rw [HX.out, hct, Bool.xor_true]
            clear hct HX
            generalize ctR n p x y z c = zo at *
            go_wp2
            go_roundw
            case rel => exact ⟨c + 1, by omega, by go_num, by rw [HX2.out], HN.out, HBN⟩
            case measure => simp [intOf]; omega
      · have HO : Hid (sdR n p x y z = 0) := by
          show _ = _
          unfold sdR
          rw [onR_mono (show c + 1 ≤ n by omega) (by rw [onR, he, Bool.or_true])]
          rfl
        have HBF := HB0.trans (HB.mono HB0.size)
        clear he
        go_wp2
        go_ret
        exact ⟨by rw [HO.out]; rfl, HBF⟩
    · obtain rfl : c = n := by omega
      have HO : Hid (sdR c p x y z = if ctR c p x y z c = true then 1 else -1) := by
        show _ = _
        unfold sdR
        rw [HON.out]
        rfl
      have HBF := HB0.trans (HB.mono HB0.size)
      clear HB HS A0 A1 Nr1 Nr2 Nr3 HON
      generalize ctR c p x y z c = zo at *
      cases zo
      all_goals go_wp2
      all_goals go_ret
      all_goals exact ⟨by rw [HO.out]; rfl, HBF⟩
end Go.Proofs.YtibbjjlapglndaaGreat

/- On which side of a ring a point lies: both answers. -/
namespace Go.Proofs.YtibbjjlapglndaaGreat
open Go.RowKit
def VregSpecSide (ao : Option Addr) (n cap : Nat) (p : Ps) (x y z : Int) (_B : Nat) : Nat → Value → World → Prop
  | 0, v, _ => v = .agg #[.slice ao n cap]
  | 1, v, _ => v = PV x y z
  | 2, v, W => L3W x y z v W
  | 3, v, _ => v = .int .i64 (sdR n p x y z)
  | 4, v, _ => v = .int .i64 (sdR n p x y z)
  | _, _, _ => True
theorem VregSpecSide.mono {ao : Option Addr} {n cap : Nat} {p : Ps} {x y z : Int} {B j : Nat} {v : Value} {W W2 : World} (hB : Below W.heap.size W W2) (h : VregSpecSide ao n cap p x y z B j v W) : VregSpecSide ao n cap p x y z B j v W2 := by
  unfold VregSpecSide at *
  split <;> simp only at h <;> first | exact h | exact h.step hB | trivial
end Go.Proofs.YtibbjjlapglndaaGreat

/- Whether two rings meet: the program's walk. -/
namespace Go.Proofs.YtibbjjlapglndaaGreat
open Go.RowKit Go.Shelf
attribute [local go_sem] Oper.semAt_some
set_option maxRecDepth 100000 in
set_option maxHeartbeats 8000000 in
theorem meets_any (ao bo : Option Addr) (n cap m cap2 : Nat) (p q : Ps) (hn3 : 3 ≤ n) (hn : n ≤ 12) (hok : ∀ i, i < n → spotOk (p i).1 (p i).2 = true) (hone : OneN n p) (hm3 : 3 ≤ m) (hm : m ≤ 12) (hokq : ∀ i, i < m → spotOk (q i).1 (q i).2 = true) (honeq : OneN m q) (w : World) (hS : SpIn w ao n p) (hSq : SpIn w bo m q) : Calls Tryz.prog 38 #[.agg #[.slice ao n cap], .agg #[.slice bo m cap2]] w (VP (.bool (rmB n p m q)) w) := by
  refine (callsIn_wide (n := 12)).1 ?_
  refine callsIn_of_wp_marks Tryz.func38 rfl trivial ?_ rfl
  simp only [Tryz.ntmps38, List.size_toArray, List.length_cons, List.length_nil, Nat.reduceAdd, Nat.reduceSub, Array.replicate_succ, Array.replicate_zero, List.push_toArray, List.append_toArray, List.nil_append, List.cons_append]
  gi_wp2_with (refine ⟨trivial, ?_⟩; gi_at_call 65; refine (callsIn_wide.2 (sides_any _ _ _ _)).mono ?_; rintro e w' ⟨rfl, rfl⟩)
  have bA := (((Boxed.new w 34 (.slice ao n cap)).alloc (.cells #[.slice bo m cap2] 34)).alloc (.cells #[.bool false] 4)).alloc (.cells #[.slice ao n cap] 34)
  have bQ := ((Boxed.new (w.alloc (.cells #[.slice ao n cap] 34)) 34 (.slice bo m cap2)).alloc (.cells #[.bool false] 4)).alloc (.cells #[.slice ao n cap] 34)
  have bR := (Boxed.new ((w.alloc (.cells #[.slice ao n cap] 34)).alloc (.cells #[.slice bo m cap2] 34)) 4 (.bool false)).alloc (.cells #[.slice ao n cap] 34)
  have bN := Boxed.new (((w.alloc (.cells #[.slice ao n cap] 34)).alloc (.cells #[.slice bo m cap2] 34)).alloc (.cells #[.bool false] 4)) 34 (.slice ao n cap)
  simp only [World.size_alloc] at bQ bR bN
  have hB0 : Below w.heap.size w ((((w.alloc (.cells #[.slice ao n cap] 34)).alloc (.cells #[.slice bo m cap2] 34)).alloc (.cells #[.bool false] 4)).alloc (.cells #[.slice ao n cap] 34)) := ((((Below.refl _ w).alloc (Nat.le_refl _) _).alloc (by simp) _).alloc (by simp; omega) _).alloc (by simp; omega) _
  have hsz : ((((w.alloc (.cells #[.slice ao n cap] 34)).alloc (.cells #[.slice bo m cap2] 34)).alloc (.cells #[.bool false] 4)).alloc (.cells #[.slice ao n cap] 34)).heap.size = w.heap.size + 4 := by simp
  obtain ⟨W0, hW0⟩ : ∃ W0, ((((w.alloc (.cells #[.slice ao n cap] 34)).alloc (.cells #[.slice bo m cap2] 34)).alloc (.cells #[.bool false] 4)).alloc (.cells #[.slice ao n cap] 34)) = W0 := ⟨_, rfl⟩
  rw [hW0] at bA bQ bR bN hB0 hsz ⊢
  clear hW0
  have hS0 : SpB w.heap.size W0 ao n p := (hS.low).keep (fun k hk => hB0.block k hk)
  have hS1 : SpB w.heap.size W0 bo m q := (hSq.low).keep (fun k hk => hB0.block k hk)
  refine wpIn_rangeFunc_ownH rfl (by omega) (gf := 96) (lb := #[.pointer (some ⟨w.heap.size + 1 + 1 + 1, 0, none⟩)]) rfl trivial (enters_of Tryz.func96 (by kernel_rfl) rfl)
    (sides_stops (12 - 1) w.heap.size (w.heap.size + 1 + 1 + 1) ao n cap p hn3 hn hok hone W0 (by omega) (by omega) bN.cell hS0) (fun h k => h.trans k) (KpB.put (by omega) (by omega)) (Below.refl _ _) (fun _ => rfl)
    (fun pre W => (∀ i ∈ pre, ∀ k, k < m → kdX n p m q i.1 k = 0) ∧ Below W0.heap.size W0 W)
    (fun c pre W => ((c = .ret ∧ ∃ i ∈ pre, ∃ k, k < m ∧ kdX n p m q i.1 k ≠ 0) ∧ Boxed W (w.heap.size + 1 + 1) 4 (.bool true)) ∧ Below w.heap.size w W)
    (OwnFrom.and (ownFrom_pure _ _) (ownFrom_below (Nat.le_refl _) (Nat.le_refl _)))
    (fun c => OwnFrom.and (OwnFrom.and (ownFrom_pure _ _) (Own.from (boxed_own _ _ _) _)) (ownFrom_below (Nat.le_refl _) (by omega)))
    ⟨by simp, Below.refl _ _⟩
    (fun x a' W => ∃ Bs, BoxV W Bs 83 [.int .i64 (sdA n p x.1).1, .int .i64 (sdA n p x.1).2.1, .int .i64 (sdA n p x.1).2.2.1, .int .i64 (sdA n p x.1).2.2.2] ∧ a' = { tmps := #[.agg #[.slice ao n cap], .agg #[.slice bo m cap2], .pointer (some ⟨w.heap.size, 0, none⟩), .pointer (some ⟨w.heap.size + 1, 0, none⟩), .pointer (some ⟨w.heap.size + 1 + 1, 0, none⟩), undef, .pointer (some ⟨Bs, 0, none⟩), undef, undef, undef, undef, undef, .agg #[.slice ao n cap], .func (.func 96) #[] #[.pointer (some ⟨w.heap.size + 1 + 1 + 1, 0, none⟩)], .int .i64 (x.1 : Int), Sg (sdA n p x.1).1 (sdA n p x.1).2.1 (sdA n p x.1).2.2.1 (sdA n p x.1).2.2.2, undef, undef, undef, undef, undef, undef, undef, undef, undef, undef, undef, undef, undef], defers := [] })
    (fun x a' _ X Y row hs hg hr => by obtain ⟨Bs, e4, e5⟩ := hs; exact ⟨Bs, boxV_own Bs 83 (fun (_ : Unit) => [.int .i64 (sdA n p x.1).1, .int .i64 (sdA n p x.1).2.1, .int .i64 (sdA n p x.1).2.2.1, .int .i64 (sdA n p x.1).2.2.2]) () X Y row e4 hg (fun r e => (hr r e).2), e5⟩)
    ?assign ?body ?done ?stop
  case assign =>
    rintro l pre x W K ⟨hp, hB1⟩ hK
    unfold enS
    gi_wp2
    have hB2 : Below W.heap.size W (W.alloc (.cells #[.int .i64 (sdA n p x.1).1, .int .i64 (sdA n p x.1).2.1, .int .i64 (sdA n p x.1).2.2.1, .int .i64 (sdA n p x.1).2.2.2] 83)) := (Below.refl _ W).alloc (Nat.le_refl _) _
    have hsW := hB1.size
    have b2 := BoxV.new W 83 [.int .i64 (sdA n p x.1).1, .int .i64 (sdA n p x.1).2.1, .int .i64 (sdA n p x.1).2.2.1, .int .i64 (sdA n p x.1).2.2.2]
    exact hK _ _ (below_keeps hB2) (KpB.of hB2 (by omega) (by omega)) ⟨hp, hB1.trans (hB2.mono hB1.size)⟩ ⟨_, b2, rfl⟩
  case body =>
    rintro l pre x a' W hl ⟨r, hr⟩ ⟨hp, hB1⟩ ⟨Bs, bS, rfl⟩ hlt
    have bQ1 := boxed_step bQ hB1
    have cQ := bQ1.cell
    have h1' : 1 ≤ 12 - 1 - 1 := by omega
    gi_wp2_with (refine ⟨trivial, ?_⟩; gi_at_call 65; refine (CallsIn.inRound l (callsIn_wide.2 (sides_any _ _ _ _))).mono ?_; rintro e w' ⟨rfl, rfl⟩)
    have hsW := hB1.size
    have bN1 := Boxed.new W 34 (.slice bo m cap2)
    have hr' : (W.alloc (.cells #[.slice bo m cap2] 34)).heap[l]? = some (.loop r) := (Below.heap_alloc W _ l (Array.getElem?_eq_some_iff.1 hr).1).trans hr
    have hBR : Below W.heap.size W (W.alloc (.cells #[.slice bo m cap2] 34)) := (Below.refl _ W).alloc (Nat.le_refl _) _
    have hSW : SpB w.heap.size (W.alloc (.cells #[.slice bo m cap2] 34)) bo m q := hS1.keep (fun k hk => (hBR.block k (by omega)).trans (hB1.block k (by omega)))
    have hbR := boxed_step bR hB1
    have hxn := x.2
    have hs1 : (W.alloc (.cells #[.slice bo m cap2] 34)).heap.size = W.heap.size + 1 := by simp
    obtain ⟨W1, hW1⟩ : ∃ W1, W.alloc (.cells #[.slice bo m cap2] 34) = W1 := ⟨_, rfl⟩
    rw [hW1] at bN1 hr' hBR hSW hs1 ⊢
    clear hW1
    refine wpIn_rangeFunc_ownN (l₀ := l) (r₀ := r) rfl hr' h1' (gf := 96) (lb := #[.pointer (some ⟨W.heap.size, 0, none⟩)]) rfl trivial (enters_of Tryz.func96 (by kernel_rfl) rfl)
      ((sides_stops (12 - 1 - 1 - 1) w.heap.size W.heap.size bo m cap2 q hm3 hm hokq honeq W1 (by omega) (by omega) bN1.cell hSW).inRound l) (fun h k => h.trans k) (KpB.put (by omega) (by omega)) (Below.refl _ _) (fun _ => rfl)
      (fun pre' W' => (∀ y ∈ pre', kdX n p m q x.1 y.1 = 0) ∧ Below W1.heap.size W1 W')
      (fun c pre' W' => ((c = .ret ∧ ∃ y ∈ pre', kdX n p m q x.1 y.1 ≠ 0) ∧ Boxed W' (w.heap.size + 1 + 1) 4 (.bool true)) ∧ Below w.heap.size W W' ∧ KeepsFrom W0.heap.size W W')
      (OwnFrom.and (ownFrom_pure _ _) (ownFrom_below (Nat.le_refl _) (Nat.le_refl _)))
      (fun c => OwnFrom.and (OwnFrom.and (ownFrom_pure _ _) (Own.from (boxed_own _ _ _) _)) (OwnFrom.and (ownFrom_below (by omega) (by omega)) (ownFrom_keepsFrom (by omega))))
      ⟨by simp, Below.refl _ _⟩
      (fun y a'' W' => ∃ Bt, BoxV W' Bt 83 [.int .i64 (sdA m q y.1).1, .int .i64 (sdA m q y.1).2.1, .int .i64 (sdA m q y.1).2.2.1, .int .i64 (sdA m q y.1).2.2.2] ∧ a'' = { tmps := #[.agg #[.slice ao n cap], .agg #[.slice bo m cap2], .pointer (some ⟨w.heap.size, 0, none⟩), .pointer (some ⟨w.heap.size + 1, 0, none⟩), .pointer (some ⟨w.heap.size + 1 + 1, 0, none⟩), undef, .pointer (some ⟨Bs, 0, none⟩), undef, .pointer (some ⟨Bt, 0, none⟩), undef, undef, undef, .agg #[.slice ao n cap], .func (.func 96) #[] #[.pointer (some ⟨w.heap.size + 1 + 1 + 1, 0, none⟩)], .int .i64 (x.1 : Int), Sg (sdA n p x.1).1 (sdA n p x.1).2.1 (sdA n p x.1).2.2.1 (sdA n p x.1).2.2.2, .agg #[.slice bo m cap2], .func (.func 96) #[] #[.pointer (some ⟨W.heap.size, 0, none⟩)], .int .i64 (y.1 : Int), Sg (sdA m q y.1).1 (sdA m q y.1).2.1 (sdA m q y.1).2.2.1 (sdA m q y.1).2.2.2, undef, undef, undef, undef, undef, undef, undef, undef, undef], defers := [] })
      (fun y a'' _ X Y row hs hg hrw => by obtain ⟨Bt, e4, e5⟩ := hs; exact ⟨Bt, boxV_own Bt 83 (fun (_ : Unit) => [.int .i64 (sdA m q y.1).1, .int .i64 (sdA m q y.1).2.1, .int .i64 (sdA m q y.1).2.2.1, .int .i64 (sdA m q y.1).2.2.2]) () X Y row e4 hg (fun r e => (hrw r e).2), e5⟩)
      ?assign2 ?body2 ?done2 ?stop2
    case assign2 =>
      rintro l2 pre' y W' K ⟨hq, hBW⟩ hK
      unfold enS
      gi_wp2
      have hB2 : Below W'.heap.size W' (W'.alloc (.cells #[.int .i64 (sdA m q y.1).1, .int .i64 (sdA m q y.1).2.1, .int .i64 (sdA m q y.1).2.2.1, .int .i64 (sdA m q y.1).2.2.2] 83)) := (Below.refl _ W').alloc (Nat.le_refl _) _
      have hsW2 := hBW.size
      have b2 := BoxV.new W' 83 [.int .i64 (sdA m q y.1).1, .int .i64 (sdA m q y.1).2.1, .int .i64 (sdA m q y.1).2.2.1, .int .i64 (sdA m q y.1).2.2.2]
      exact hK _ _ (below_keeps hB2) (KpB.of hB2 (by omega) (by omega)) ⟨hq, hBW.trans (hB2.mono hBW.size)⟩ ⟨_, b2, rfl⟩
    case body2 =>
      rintro l2 pre' y a'' W' _ _ ⟨hq, hBW⟩ ⟨Bt, bT, rfl⟩ _
      have hBX : Below W.heap.size W W' := hBR.trans (hBW.mono hBR.size)
      have bS2 := (bS.step hBX).blk
      have bT2 := bT.blk
      have bR2 := boxed_step hbR hBX
      have s0' := bS2.c 0 rfl; have s1' := bS2.c 1 rfl; have s2' := bS2.c 2 rfl; have s3' := bS2.c 3 rfl
      have t0' := bT2.c 0 rfl; have t1' := bT2.c 1 rfl; have t2' := bT2.c 2 rfl; have t3' := bT2.c 3 rfl
      have hsX := hBW.size
      obtain ⟨i1, i2, i3, i4⟩ := in1_seg (side_ok hok hone hn3 x.2)
      obtain ⟨j1, j2, j3, j4⟩ := in1_seg (side_ok hokq honeq hm3 y.2)
      obtain ⟨r0, r1, r2, r3, r4, r5, r6, r7, r8, r9, r10, r11, s0, s1, s2, s3, s4, s5, s6, s7, s8, s9, s10, s11, hW12⟩ := meetW_12 (sdA n p x.1).1 (sdA n p x.1).2.1 (sdA n p x.1).2.2.1 (sdA n p x.1).2.2.2 (sdA m q y.1).1 (sdA m q y.1).2.1 (sdA m q y.1).2.2.1 (sdA m q y.1).2.2.2
      have MT := meet_det (sdA n p x.1).1 (sdA n p x.1).2.1 (sdA n p x.1).2.2.1 (sdA n p x.1).2.2.2 (sdA m q y.1).1 (sdA m q y.1).2.1 (sdA m q y.1).2.2.1 (sdA m q y.1).2.2.2 i1 i2 i3 i4 j1 j2 j3 j4
      rw [hW12] at MT
      have hkd : kndZ (sdA n p x.1).1 (sdA n p x.1).2.1 (sdA n p x.1).2.2.1 (sdA n p x.1).2.2.2 (sdA m q y.1).1 (sdA m q y.1).2.1 (sdA m q y.1).2.2.1 (sdA m q y.1).2.2.2 = kdX n p m q x.1 y.1 := rfl
      rw [hkd] at MT
      clear i1 i2 i3 i4 j1 j2 j3 j4 hW12 hkd
      generalize hzk : kdX n p m q x.1 y.1 = zk at *
      by_cases hz0 : zk = 0
      · have e1 : (zk != 0) = false := by simp [hz0]
        gi_wp2_with (refine ⟨trivial, ?_⟩; gi_at_call 72; refine (CallsIn.inRound l2 (CallsIn.inRound l (callsIn_wide.2 (MT _)))).mono ?_; rintro e v1 ⟨rfl, hBm⟩)
        have hBN : Below W'.heap.size W' ((v1.alloc (.cells #[.int .u64 r0, .int .u64 r1, .int .u64 r2, .int .u64 r3, .int .u64 r4, .int .u64 r5, .int .u64 r6, .int .u64 r7, .int .u64 r8, .int .u64 r9, .int .u64 r10, .int .u64 r11] 38)).alloc (.cells #[.int .u64 s0, .int .u64 s1, .int .u64 s2, .int .u64 s3, .int .u64 s4, .int .u64 s5, .int .u64 s6, .int .u64 s7, .int .u64 s8, .int .u64 s9, .int .u64 s10, .int .u64 s11] 38)) := (hBm.alloc hBm.size _).alloc (Nat.le_trans hBm.size (by simp)) _
        refine ⟨below_keeps hBN, KpB.of hBN (by omega) (by omega), fun z hz => ?_, hBW.trans (hBN.mono hBW.size)⟩
        rcases List.mem_append.1 hz with h | h
        · exact hq z h
        · simp at h
          subst h
          rw [hzk, hz0]
      · have e1 : (zk != 0) = true := by simp [hz0]
        gi_wp2_with (refine ⟨trivial, ?_⟩; gi_at_call 72; refine (CallsIn.inRound l2 (CallsIn.inRound l (callsIn_wide.2 (MT _)))).mono ?_; rintro e v1 ⟨rfl, hBm⟩; have hBN : Below W'.heap.size W' ((v1.alloc (.cells #[.int .u64 r0, .int .u64 r1, .int .u64 r2, .int .u64 r3, .int .u64 r4, .int .u64 r5, .int .u64 r6, .int .u64 r7, .int .u64 r8, .int .u64 r9, .int .u64 r10, .int .u64 r11] 38)).alloc (.cells #[.int .u64 s0, .int .u64 s1, .int .u64 s2, .int .u64 s3, .int .u64 s4, .int .u64 s5, .int .u64 s6, .int .u64 s7, .int .u64 s8, .int .u64 s9, .int .u64 s10, .int .u64 s11] 38)) := (hBm.alloc hBm.size _).alloc (Nat.le_trans hBm.size (by simp)) _; have bR3 := boxed_step bR2 hBN; have cR3 := bR3.cell; have fR3 := bR3.frozen)
        have hXN := hBX.trans (hBN.mono hBX.size)
        exact ⟨(below_keeps hBN).trans ((KeepsOthers.setCell _ _ _).from _), ⟨⟨⟨rfl, y, List.mem_append.2 (.inr (by simp)), by rw [hzk]; exact hz0⟩, bR3.set _⟩, (hXN.mono (show w.heap.size ≤ W.heap.size by omega)).setCell (p := ⟨w.heap.size + 1 + 1, 0, none⟩) (by simp; omega) _, (below_keeps hXN).trans ((KeepsOthers.setCell _ _ _).from _)⟩⟩
    case done2 =>
      rintro ys' W' rfl ⟨hq, hBW⟩
      have hBX : Below W.heap.size W W' := hBR.trans (hBW.mono hBR.size)
      gi_wp2
      refine ⟨below_keeps hBX, KpB.of hBX (by omega) (by omega), fun i hi => ?_, hB1.trans (hBX.mono hB1.size)⟩
      rcases List.mem_append.1 hi with h | h
      · exact hp i h
      · simp at h
        subst h
        exact fun k hk => hq ⟨k, hk⟩ (List.mem_finRange _)
    case stop2 =>
      rintro c pre' W' hpre ⟨⟨⟨rfl, y, hy, hk⟩, bR2⟩, hBW, hKF⟩
      gi_wp2
      exact ⟨hKF, ⟨⟨rfl, x, List.mem_append.2 (.inr (by simp)), y.1, y.2, hk⟩, bR2⟩, (hB0.trans (hB1.mono (by omega))).trans hBW⟩
  case done =>
    rintro D zs W hD rfl ⟨hp, hB1⟩ hK
    have bR1 := boxed_step bR hB1
    have cR := bR1.cell
    have fR := bR1.frozen
    gi_wp2
    have hK' := (KeepsOthers.setCell W ⟨w.heap.size + 1 + 1, 0, none⟩ (.bool false)).same D _ hK rfl
    refine ⟨by simp, .inl ⟨_, _, rfl, run_takeDeferred hK', ?_⟩⟩
    have hc5 := cell_kept (bR1.set (.bool false)).cell (grownBy_putObj' _ D (.deferred none)) (fun r e => by cases e; exact ⟨_, hK', rfl⟩)
    have hBW : Below w.heap.size w W := hB0.trans (hB1.mono (by omega))
    refine ⟨.bool false, ?_, by unfold rmB; rw [decide_eq_false (fun h => h (fun i hi k hk => hp ⟨i, hi⟩ (List.mem_finRange _) k hk))], (hBW.setCell (p := ⟨w.heap.size + 1 + 1, 0, none⟩) (by simp; omega) _).trans (belowK_b (w := w) (Nat.le_refl _) _ D _ _ (by omega) hK' rfl rfl)⟩
    simp [results, Tryz.results38, go_sem, hc5]
  case stop =>
    rintro D c pre W hD hpre ⟨⟨⟨rfl, i, hi, k, hk, hbd⟩, bR1⟩, hB1⟩ hK
    have cR := bR1.cell
    gi_wp2
    refine ⟨by simp, .inl ⟨_, _, rfl, run_takeDeferred hK, ?_⟩⟩
    have hc5 := cell_kept bR1.cell (grownBy_putObj' _ D (.deferred none)) (fun r e => by cases e; exact ⟨_, hK, rfl⟩)
    have hd : rmB n p m q = true := decide_eq_true (fun h => hbd (h i.1 i.2 k hk))
    refine ⟨.bool true, ?_, by rw [hd], hB1.trans (belowK_b (w := w) (Nat.le_refl _) _ D _ _ (by omega) hK rfl rfl)⟩
    simp [results, Tryz.results38, go_sem, hc5]
end Go.Proofs.YtibbjjlapglndaaGreat

/- Whether two rings meet: both answers. -/
namespace Go.Proofs.YtibbjjlapglndaaGreat
open Go.RowKit
theorem two_slices (w : World) (a b : Value) (T : TypeId) : ArgsB w ((w.alloc (.cells #[a] T)).alloc (.cells #[b] T)) [[a], [b]] := by
  refine ⟨((Below.refl _ _).alloc (Nat.le_refl _) _).alloc (by simp) _, fun j vs hj => ?_⟩
  match j, hj with
  | 0, hj => cases hj; exact (Blk.new w [a] T rfl).alloc _
  | 1, hj => cases hj; exact Blk.new (w.alloc (.cells #[a] T)) [b] T (by simp)
  | j + 2, hj => simp at hj
end Go.Proofs.YtibbjjlapglndaaGreat

/- Whether a ring lies within another one: both answers, the law. -/
namespace Go.Proofs.YtibbjjlapglndaaGreat
open Go.RowKit
/-- Whether the first spot of a ring lies within another ring. -/
def inB (p : Ps) (m : Nat) (q : Ps) : Bool := sdR m q (p 0).1 (p 0).2 1 == 1
def riV (n : Nat) (p : Ps) (m : Nat) (q : Ps) : Bool := decide (rgF n p = 0) && (decide (rgF m q = 0) && (!(rmB n p m q) && inB p m q))
def VregWithin (bo : Option Addr) (n cap m cap2 A off B1 : Nat) (p q : Ps) (_B : Nat) : Nat → Value → World → Prop
  | 0, v, _ => v = .agg #[.slice bo m cap2]
  | 1, v, _ => v = .pointer (some ⟨B1, 0, none⟩)
  | 2, v, _ => v = .slice (some ⟨A, off, none⟩) n cap
  | 3, v, _ => v = .pointer (some ⟨A, off, none⟩)
  | 4, v, _ => v = Sp (p 0).1 (p 0).2
  | 5, v, W => L3W (p 0).1 (p 0).2 1 v W
  | 6, v, _ => v = .int .i64 (sdR m q (p 0).1 (p 0).2 1)
  | 7, v, _ => v = .bool (inB p m q)
  | 8, v, _ => v = .bool (inB p m q)
  | _, _, _ => True
theorem VregWithin.mono {bo : Option Addr} {n cap m cap2 A off B1 : Nat} {p q : Ps} {B j : Nat} {v : Value} {W W2 : World} (hB : Below W.heap.size W W2) (h : VregWithin bo n cap m cap2 A off B1 p q B j v W) : VregWithin bo n cap m cap2 A off B1 p q B j v W2 := by
  unfold VregWithin at *
  split <;> simp only at h <;> first | exact h | exact h.step hB | trivial
set_option maxRecDepth 100000 in
set_option maxHeartbeats 4000000 in
theorem regWithin {Q : Exit → Act → World → Prop} {bo : Option Addr} {n cap m cap2 A off B1 : Nat} {p q : Ps} {B2 : Nat} {w0 : World} {a0 : Act} {idq : Nat} {t0 t1 t2 t3 t4 t5 t6 t7 t8 : TypeId} {q0 q1 q2 q3 q4 q5 q6 q7 q8 : String}
    (hn : 0 < n) (hn2 : n ≤ 1048576) (hq : RgOk m q) (hS : SpIn w0 bo m q) (ia : -1000000 ≤ (p 0).1 ∧ (p 0).1 ≤ 1000000) (ib : -1000000 ≤ (p 0).2 ∧ (p 0).2 ≤ 1000000) (h2 : a0.tmps[2]? = some (.pointer (some ⟨B1, 0, none⟩))) (h3 : a0.tmps[3]? = some (.pointer (some ⟨B2, 0, none⟩))) (k0 : w0.cell? ⟨B1, 0, none⟩ = some (.slice (some ⟨A, off, none⟩) n cap)) (l0 : (⟨B1, 0, none⟩ : Addr).block < w0.heap.size) (k1 : w0.cell? ⟨B2, 0, none⟩ = some (.slice bo m cap2)) (l1 : (⟨B2, 0, none⟩ : Addr).block < w0.heap.size) (k2 : w0.cell? ⟨A, off, none⟩ = some (.int .i64 (p 0).1)) (l2 : (⟨A, off, none⟩ : Addr).block < w0.heap.size) (k3 : w0.cell? ⟨A, off + 1, none⟩ = some (.int .i64 (p 0).2)) (l3 : (⟨A, off + 1, none⟩ : Addr).block < w0.heap.size) (hz : a0.tmps.size = 13)
    (hQ : ∀ aq W, aq.tmps.size = a0.tmps.size → aq.defers = a0.defers → (∀ e, e ∉ ([5, 6, 7, 8, 9, 10, 11, 12, 4] : List Nat) → aq.tmps[e]? = a0.tmps[e]?) → VregWithin bo n cap m cap2 A off B1 p q w0.heap.size 8 (aq.tmps.getD 4 undef) W → Below w0.heap.size w0 W → Q .normal aq W) :
    (Code.region idq #[{ dst := some 5, op := Op.load 34 (Operand.tmp 3), type := t0, pos := q0, after := #[], guard := none },
    { dst := some 6, op := Op.fieldAddr 34 (Operand.tmp 2) 0, type := t1, pos := q1, after := #[], guard := none },
    { dst := some 7, op := Op.load 32 (Operand.tmp 6), type := t2, pos := q2, after := #[{ on := 1, ground := Ground.data }], guard := none },
    { dst := some 8, op := Op.indexAddr 32 (Operand.tmp 7) (Operand.const (Value.int IntKind.i64 0)), type := t3, pos := q3, after := #[{ on := 2, ground := Ground.data }], guard := none },
    { dst := some 9, op := Op.load 81 (Operand.tmp 8), type := t4, pos := q4, after := #[{ on := 3, ground := Ground.data }], guard := none },
    { dst := some 10, op := Op.call { callee := Callee.value (Operand.func 58), args := #[Operand.tmp 9], argTypes := #[81] }, type := t5, pos := q5, after := #[{ on := 4, ground := Ground.data }], guard := none },
    { dst := some 11, op := Op.call { callee := Callee.value (Operand.func 28), args := #[Operand.tmp 5, Operand.tmp 10], argTypes := #[34, 62] }, type := t6, pos := q6, after := #[{ on := 0, ground := Ground.data }, { on := 5, ground := Ground.data }, { on := 5, ground := Ground.chain }], guard := none },
    { dst := some 12, op := Op.binOp BinOp.eql 2 (Operand.tmp 11) (Operand.const (Value.int IntKind.i64 1)) 2, type := t7, pos := q7, after := #[{ on := 6, ground := Ground.data }], guard := none },
    { dst := some 4, op := Op.assign (Operand.tmp 12), type := t8, pos := q8, after := #[{ on := 7, ground := Ground.data }, { on := 6, ground := Ground.chain }, { on := 0, ground := Ground.phase }, { on := 1, ground := Ground.phase }, { on := 2, ground := Ground.phase }, { on := 3, ground := Ground.phase }, { on := 4, ground := Ground.phase }, { on := 5, ground := Ground.phase }, { on := 6, ground := Ground.phase }, { on := 7, ground := Ground.phase }], guard := none }] true).wp Tryz.prog Q a0 w0 := by
  have hS : distS [some 5, some 6, some 7, some 8, some 9, some 10, some 11, some 12, some 4] = true := rfl
  refine wp_region_q (by kernel_rfl) w0.heap.size [some 5, some 6, some 7, some 8, some 9, some 10, some 11, some 12, some 4] (VregWithin bo n cap m cap2 A off B1 p q w0.heap.size) rfl ?_ ?_
  · intro Q lq aq W iq oq hJ hl ho hall
    have hJ2 := hJ
    obtain ⟨z1, z2, z3, z4, z5, z6, z7⟩ := hJ
    have g2 : aq.tmps.getD 2 undef = .pointer (some ⟨B1, 0, none⟩) := by rw [Array.getD_eq_getD_getElem?, z4 2 (by decide), h2]; rfl
    have g3 : aq.tmps.getD 3 undef = .pointer (some ⟨B2, 0, none⟩) := by rw [Array.getD_eq_getD_getElem?, z4 3 (by decide), h3]; rfl
    have c0 : W.cell? ⟨B1, 0, none⟩ = some (.slice (some ⟨A, off, none⟩) n cap) := (z5.cell l0).trans k0
    have c1 : W.cell? ⟨B2, 0, none⟩ = some (.slice bo m cap2) := (z5.cell l1).trans k1
    have c2 : W.cell? ⟨A, off, none⟩ = some (.int .i64 (p 0).1) := (z5.cell l2).trans k2
    have c3 : W.cell? ⟨A, off + 1, none⟩ = some (.int .i64 (p 0).2) := (z5.cell l3).trans k3
    match iq, ho with
    | 0, ho =>
      cases ho
      refine wpOp_of rfl rfl ?_
      have hK := fun (v : Value) (W2 : World) hW hT hv => hJ2.put hS 0 5 rfl (by omega) (W' := W2) hW hT v hv
      clear ho hall hl hQ
      generalize InvQ w0.heap.size [some 5, some 6, some 7, some 8, some 9, some 10, some 11, some 12, some 4] (VregWithin bo n cap m cap2 A off B1 p q w0.heap.size) w0 a0 (lq.setIfInBounds 0 true) = K at hK ⊢
      clear hJ2 hS z1 z2 z3 z4 z6 z7
      go_simp
      exact hK _ _ z5 (fun _ _ h => h) rfl
    | 1, ho =>
      cases ho
      refine wpOp_of rfl rfl ?_
      have hK := fun (v : Value) (W2 : World) hW hT hv => hJ2.put hS 1 6 rfl (by omega) (W' := W2) hW hT v hv
      clear ho hall hl hQ
      generalize InvQ w0.heap.size [some 5, some 6, some 7, some 8, some 9, some 10, some 11, some 12, some 4] (VregWithin bo n cap m cap2 A off B1 p q w0.heap.size) w0 a0 (lq.setIfInBounds 1 true) = K at hK ⊢
      clear hJ2 hS z1 z2 z3 z4 z6 z7
      go_simp
      exact hK _ _ z5 (fun _ _ h => h) rfl
    | 2, ho =>
      cases ho
      refine wpOp_of rfl rfl ?_
      have f1 : (aq.tmps.getD 6 undef) = .pointer (some ⟨B1, 0, none⟩) := z6 1 6 (hall { on := 1, ground := Ground.data } (by simp) rfl) rfl
      have hK := fun (v : Value) (W2 : World) hW hT hv => hJ2.put hS 2 7 rfl (by omega) (W' := W2) hW hT v hv
      clear ho hall hl hQ
      generalize InvQ w0.heap.size [some 5, some 6, some 7, some 8, some 9, some 10, some 11, some 12, some 4] (VregWithin bo n cap m cap2 A off B1 p q w0.heap.size) w0 a0 (lq.setIfInBounds 2 true) = K at hK ⊢
      clear hJ2 hS z1 z2 z3 z4 z6 z7
      go_simp
      exact hK _ _ z5 (fun _ _ h => h) rfl
    | 3, ho =>
      cases ho
      refine wpOp_of rfl rfl ?_
      have f2 : (aq.tmps.getD 7 undef) = .slice (some ⟨A, off, none⟩) n cap := z6 2 7 (hall { on := 2, ground := Ground.data } (by simp) rfl) rfl
      have hnI : (0 : Int) < n := by omega
      have hnJ : (n : Int) ≤ 1048576 := by omega
      have hK := fun (v : Value) (W2 : World) hW hT hv => hJ2.put hS 3 8 rfl (by omega) (W' := W2) hW hT v hv
      clear ho hall hl hQ
      generalize InvQ w0.heap.size [some 5, some 6, some 7, some 8, some 9, some 10, some 11, some 12, some 4] (VregWithin bo n cap m cap2 A off B1 p q w0.heap.size) w0 a0 (lq.setIfInBounds 3 true) = K at hK ⊢
      clear hJ2 hS z1 z2 z3 z4 z6 z7
      go_simp
      exact hK _ _ z5 (fun _ _ h => h) rfl
    | 4, ho =>
      cases ho
      refine wpOp_of rfl rfl ?_
      have f3 : (aq.tmps.getD 8 undef) = .pointer (some ⟨A, off, none⟩) := z6 3 8 (hall { on := 3, ground := Ground.data } (by simp) rfl) rfl
      have hK := fun (v : Value) (W2 : World) hW hT hv => hJ2.put hS 4 9 rfl (by omega) (W' := W2) hW hT v hv
      clear ho hall hl hQ
      generalize InvQ w0.heap.size [some 5, some 6, some 7, some 8, some 9, some 10, some 11, some 12, some 4] (VregWithin bo n cap m cap2 A off B1 p q w0.heap.size) w0 a0 (lq.setIfInBounds 4 true) = K at hK ⊢
      clear hJ2 hS z1 z2 z3 z4 z6 z7
      go_simp
      exact hK _ _ z5 (fun _ _ h => h) rfl
    | 5, ho =>
      cases ho
      refine wpOp_of rfl rfl ?_
      have f4 : (aq.tmps.getD 9 undef) = Sp (p 0).1 (p 0).2 := z6 4 9 (hall { on := 4, ground := Ground.data } (by simp) rfl) rfl
      have hK := fun (v : Value) (W2 : World) hW hT hv => hJ2.put hS 5 10 rfl (by omega) (W' := W2) hW hT v hv
      clear ho hall hl hQ
      generalize InvQ w0.heap.size [some 5, some 6, some 7, some 8, some 9, some 10, some 11, some 12, some 4] (VregWithin bo n cap m cap2 A off B1 p q w0.heap.size) w0 a0 (lq.setIfInBounds 5 true) = K at hK ⊢
      clear hJ2 hS z1 z2 z3 z4 z6 z7
      go_simp
      refine (l3Spot_det (p 0).1 (p 0).2 ia ib W).mono ?_
      rintro e v1 ⟨s1, o1, n1, m1, e1, s2, o2, n2, m2, e2, s3, o3, n3, m3, e3, rfl, N1, N2, N3, hBv⟩
      exact hK _ _ (z5.trans (hBv.mono z5.size)) (fun j v h => h.mono hBv) ⟨_, _, _, _, _, _, _, _, _, _, _, _, _, _, _, rfl, N1, N2, N3⟩
    | 6, ho =>
      cases ho
      refine wpOp_of rfl rfl ?_
      have f0 : (aq.tmps.getD 5 undef) = .agg #[.slice bo m cap2] := z6 0 5 (hall { on := 0, ground := Ground.data } (by simp) rfl) rfl
      have f5 : L3W (p 0).1 (p 0).2 1 (aq.tmps.getD 10 undef) W := z6 5 10 (hall { on := 5, ground := Ground.data } (by simp) rfl) rfl
      obtain ⟨rs1, ro1, rn1, rc1, rd1, rs2, ro2, rn2, rc2, rd2, rs3, ro3, rn3, rc3, rd3, re, R1, R2, R3⟩ := f5
      have hK := fun (v : Value) (W2 : World) hW hT hv => hJ2.put hS 6 11 rfl (by omega) (W' := W2) hW hT v hv
      clear ho hall hl hQ
      generalize InvQ w0.heap.size [some 5, some 6, some 7, some 8, some 9, some 10, some 11, some 12, some 4] (VregWithin bo n cap m cap2 A off B1 p q w0.heap.size) w0 a0 (lq.setIfInBounds 6 true) = K at hK ⊢
      clear hJ2 hS z1 z2 z3 z4 z6 z7
      go_simp
      refine (l5In_any bo m cap2 q rs1 rs2 rs3 ro1 ro2 ro3 rn1 rc1 rn2 rc2 rn3 rc3 rd1 rd2 rd3 (p 0).1 (p 0).2 1 hq W (hS.step z5) R1 R2 R3).mono ?_
      rintro e v1 ⟨rfl, hBv⟩
      exact hK _ _ (z5.trans (hBv.mono z5.size)) (fun j v h => h.mono hBv) rfl
    | 7, ho =>
      cases ho
      refine wpOp_of rfl rfl ?_
      have f6 : (aq.tmps.getD 11 undef) = .int .i64 (sdR m q (p 0).1 (p 0).2 1) := z6 6 11 (hall { on := 6, ground := Ground.data } (by simp) rfl) rfl
      have hK := fun (v : Value) (W2 : World) hW hT hv => hJ2.put hS 7 12 rfl (by omega) (W' := W2) hW hT v hv
      clear ho hall hl hQ
      generalize InvQ w0.heap.size [some 5, some 6, some 7, some 8, some 9, some 10, some 11, some 12, some 4] (VregWithin bo n cap m cap2 A off B1 p q w0.heap.size) w0 a0 (lq.setIfInBounds 7 true) = K at hK ⊢
      clear hJ2 hS z1 z2 z3 z4 z6 z7
      obtain ⟨zc, hzc⟩ : ∃ t, t = sdR m q (p 0).1 (p 0).2 1 := ⟨_, rfl⟩
      rw [← hzc] at f6
      have HZ : Hid (zc = sdR m q (p 0).1 (p 0).2 1) := hzc
      clear hzc
      go_simp
      exact hK _ _ z5 (fun _ _ h => h) (by show Value.bool _ = Value.bool _; unfold inB; rw [← HZ.out])
    | 8, ho =>
      cases ho
      refine wpOp_of rfl rfl ?_
      have f7 : (aq.tmps.getD 12 undef) = .bool (inB p m q) := z6 7 12 (hall { on := 7, ground := Ground.data } (by simp) rfl) rfl
      have hK := fun (v : Value) (W2 : World) hW hT hv => hJ2.put hS 8 4 rfl (by omega) (W' := W2) hW hT v hv
      clear ho hall hl hQ
      generalize InvQ w0.heap.size [some 5, some 6, some 7, some 8, some 9, some 10, some 11, some 12, some 4] (VregWithin bo n cap m cap2 A off B1 p q w0.heap.size) w0 a0 (lq.setIfInBounds 8 true) = K at hK ⊢
      clear hJ2 hS z1 z2 z3 z4 z6 z7
      go_simp
      exact hK _ _ z5 (fun _ _ h => h) rfl
    | iq + 9, ho => simp at ho
  · intro lq aq W hJ hr
    obtain ⟨z1, z2, z3, z4, z5, z6, z7⟩ := hJ
    have hl := listed_of hr [0, 1, 2, 3, 4, 5, 6, 7, 8] [] (by simp) (by kernel_rfl) (by rw [z1]; decide)
    exact hQ aq W z2 z3 (fun e he => z4 e (by simpa using he)) (z6 8 4 (hl 8 (by simp)) rfl) z5
def VregLies (bo : Option Addr) (n cap m cap2 A off B1 : Nat) (p q : Ps) (_B : Nat) : Nat → Value → World → Prop
  | 0, v, _ => v = .agg #[.slice bo m cap2]
  | 1, v, _ => v = .pointer (some ⟨B1, 0, none⟩)
  | 2, v, _ => v = .slice (some ⟨A, off, none⟩) n cap
  | 3, v, _ => v = .pointer (some ⟨A, off, none⟩)
  | 4, v, _ => v = Sp (p 0).1 (p 0).2
  | 5, v, _ => v = PV (p 0).1 (p 0).2 1
  | 6, v, _ => v = .int .i64 (sdR m q (p 0).1 (p 0).2 1)
  | 7, v, _ => v = .bool (inB p m q)
  | 8, v, _ => v = .bool (inB p m q)
  | _, _, _ => True
theorem VregLies.mono {bo : Option Addr} {n cap m cap2 A off B1 : Nat} {p q : Ps} {B j : Nat} {v : Value} {W W2 : World} (_hB : Below W.heap.size W W2) (h : VregLies bo n cap m cap2 A off B1 p q B j v W) : VregLies bo n cap m cap2 A off B1 p q B j v W2 := by
  unfold VregLies at *
  split <;> simp only at h <;> first | exact h | trivial
set_option maxRecDepth 100000 in
set_option maxHeartbeats 4000000 in
theorem regLies {Q : Exit → Act → World → Prop} {bo : Option Addr} {n cap m cap2 A off B1 : Nat} {p q : Ps} {B2 : Nat} {w0 : World} {a0 : Act} {idq : Nat} {t0 t1 t2 t3 t4 t5 t6 t7 t8 : TypeId} {q0 q1 q2 q3 q4 q5 q6 q7 q8 : String}
    (hn : 0 < n) (hn2 : n ≤ 1048576) (hq : RgOk m q) (hS : SpIn w0 bo m q) (ia : -1000000 ≤ (p 0).1 ∧ (p 0).1 ≤ 1000000) (ib : -1000000 ≤ (p 0).2 ∧ (p 0).2 ≤ 1000000) (h2 : a0.tmps[2]? = some (.pointer (some ⟨B1, 0, none⟩))) (h3 : a0.tmps[3]? = some (.pointer (some ⟨B2, 0, none⟩))) (k0 : w0.cell? ⟨B1, 0, none⟩ = some (.slice (some ⟨A, off, none⟩) n cap)) (l0 : (⟨B1, 0, none⟩ : Addr).block < w0.heap.size) (k1 : w0.cell? ⟨B2, 0, none⟩ = some (.slice bo m cap2)) (l1 : (⟨B2, 0, none⟩ : Addr).block < w0.heap.size) (k2 : w0.cell? ⟨A, off, none⟩ = some (.int .i64 (p 0).1)) (l2 : (⟨A, off, none⟩ : Addr).block < w0.heap.size) (k3 : w0.cell? ⟨A, off + 1, none⟩ = some (.int .i64 (p 0).2)) (l3 : (⟨A, off + 1, none⟩ : Addr).block < w0.heap.size) (hz : a0.tmps.size = 13)
    (hQ : ∀ aq W, aq.tmps.size = a0.tmps.size → aq.defers = a0.defers → (∀ e, e ∉ ([5, 6, 7, 8, 9, 10, 11, 12, 4] : List Nat) → aq.tmps[e]? = a0.tmps[e]?) → VregLies bo n cap m cap2 A off B1 p q w0.heap.size 8 (aq.tmps.getD 4 undef) W → Below w0.heap.size w0 W → Q .normal aq W) :
    (Code.region idq #[{ dst := some 5, op := Op.load 34 (Operand.tmp 3), type := t0, pos := q0, after := #[], guard := none },
    { dst := some 6, op := Op.fieldAddr 34 (Operand.tmp 2) 0, type := t1, pos := q1, after := #[], guard := none },
    { dst := some 7, op := Op.load 32 (Operand.tmp 6), type := t2, pos := q2, after := #[{ on := 1, ground := Ground.data }], guard := none },
    { dst := some 8, op := Op.indexAddr 32 (Operand.tmp 7) (Operand.const (Value.int IntKind.i64 0)), type := t3, pos := q3, after := #[{ on := 2, ground := Ground.data }], guard := none },
    { dst := some 9, op := Op.load 81 (Operand.tmp 8), type := t4, pos := q4, after := #[{ on := 3, ground := Ground.data }], guard := none },
    { dst := some 10, op := Op.call { callee := Callee.value (Operand.func 68), args := #[Operand.tmp 9], argTypes := #[81] }, type := t5, pos := q5, after := #[{ on := 4, ground := Ground.data }], guard := none },
    { dst := some 11, op := Op.call { callee := Callee.value (Operand.func 34), args := #[Operand.tmp 5, Operand.tmp 10], argTypes := #[34, 38] }, type := t6, pos := q6, after := #[{ on := 0, ground := Ground.data }, { on := 5, ground := Ground.data }, { on := 5, ground := Ground.chain }], guard := none },
    { dst := some 12, op := Op.binOp BinOp.eql 2 (Operand.tmp 11) (Operand.const (Value.int IntKind.i64 1)) 2, type := t7, pos := q7, after := #[{ on := 6, ground := Ground.data }], guard := none },
    { dst := some 4, op := Op.assign (Operand.tmp 12), type := t8, pos := q8, after := #[{ on := 7, ground := Ground.data }, { on := 6, ground := Ground.chain }, { on := 0, ground := Ground.phase }, { on := 1, ground := Ground.phase }, { on := 2, ground := Ground.phase }, { on := 3, ground := Ground.phase }, { on := 4, ground := Ground.phase }, { on := 5, ground := Ground.phase }, { on := 6, ground := Ground.phase }, { on := 7, ground := Ground.phase }], guard := none }] true).wp Tryz.prog Q a0 w0 := by
  have hS : distS [some 5, some 6, some 7, some 8, some 9, some 10, some 11, some 12, some 4] = true := rfl
  refine wp_region_q (by kernel_rfl) w0.heap.size [some 5, some 6, some 7, some 8, some 9, some 10, some 11, some 12, some 4] (VregLies bo n cap m cap2 A off B1 p q w0.heap.size) rfl ?_ ?_
  · intro Q lq aq W iq oq hJ hl ho hall
    have hJ2 := hJ
    obtain ⟨z1, z2, z3, z4, z5, z6, z7⟩ := hJ
    have g2 : aq.tmps.getD 2 undef = .pointer (some ⟨B1, 0, none⟩) := by rw [Array.getD_eq_getD_getElem?, z4 2 (by decide), h2]; rfl
    have g3 : aq.tmps.getD 3 undef = .pointer (some ⟨B2, 0, none⟩) := by rw [Array.getD_eq_getD_getElem?, z4 3 (by decide), h3]; rfl
    have c0 : W.cell? ⟨B1, 0, none⟩ = some (.slice (some ⟨A, off, none⟩) n cap) := (z5.cell l0).trans k0
    have c1 : W.cell? ⟨B2, 0, none⟩ = some (.slice bo m cap2) := (z5.cell l1).trans k1
    have c2 : W.cell? ⟨A, off, none⟩ = some (.int .i64 (p 0).1) := (z5.cell l2).trans k2
    have c3 : W.cell? ⟨A, off + 1, none⟩ = some (.int .i64 (p 0).2) := (z5.cell l3).trans k3
    match iq, ho with
    | 0, ho =>
      cases ho
      refine wpOp_of rfl rfl ?_
      have hK := fun (v : Value) (W2 : World) hW hT hv => hJ2.put hS 0 5 rfl (by omega) (W' := W2) hW hT v hv
      clear ho hall hl hQ
      generalize InvQ w0.heap.size [some 5, some 6, some 7, some 8, some 9, some 10, some 11, some 12, some 4] (VregLies bo n cap m cap2 A off B1 p q w0.heap.size) w0 a0 (lq.setIfInBounds 0 true) = K at hK ⊢
      clear hJ2 hS z1 z2 z3 z4 z6 z7
      go_simp
      exact hK _ _ z5 (fun _ _ h => h) rfl
    | 1, ho =>
      cases ho
      refine wpOp_of rfl rfl ?_
      have hK := fun (v : Value) (W2 : World) hW hT hv => hJ2.put hS 1 6 rfl (by omega) (W' := W2) hW hT v hv
      clear ho hall hl hQ
      generalize InvQ w0.heap.size [some 5, some 6, some 7, some 8, some 9, some 10, some 11, some 12, some 4] (VregLies bo n cap m cap2 A off B1 p q w0.heap.size) w0 a0 (lq.setIfInBounds 1 true) = K at hK ⊢
      clear hJ2 hS z1 z2 z3 z4 z6 z7
      go_simp
      exact hK _ _ z5 (fun _ _ h => h) rfl
    | 2, ho =>
      cases ho
      refine wpOp_of rfl rfl ?_
      have f1 : (aq.tmps.getD 6 undef) = .pointer (some ⟨B1, 0, none⟩) := z6 1 6 (hall { on := 1, ground := Ground.data } (by simp) rfl) rfl
      have hK := fun (v : Value) (W2 : World) hW hT hv => hJ2.put hS 2 7 rfl (by omega) (W' := W2) hW hT v hv
      clear ho hall hl hQ
      generalize InvQ w0.heap.size [some 5, some 6, some 7, some 8, some 9, some 10, some 11, some 12, some 4] (VregLies bo n cap m cap2 A off B1 p q w0.heap.size) w0 a0 (lq.setIfInBounds 2 true) = K at hK ⊢
      clear hJ2 hS z1 z2 z3 z4 z6 z7
      go_simp
      exact hK _ _ z5 (fun _ _ h => h) rfl
    | 3, ho =>
      cases ho
      refine wpOp_of rfl rfl ?_
      have f2 : (aq.tmps.getD 7 undef) = .slice (some ⟨A, off, none⟩) n cap := z6 2 7 (hall { on := 2, ground := Ground.data } (by simp) rfl) rfl
      have hnI : (0 : Int) < n := by omega
      have hnJ : (n : Int) ≤ 1048576 := by omega
      have hK := fun (v : Value) (W2 : World) hW hT hv => hJ2.put hS 3 8 rfl (by omega) (W' := W2) hW hT v hv
      clear ho hall hl hQ
      generalize InvQ w0.heap.size [some 5, some 6, some 7, some 8, some 9, some 10, some 11, some 12, some 4] (VregLies bo n cap m cap2 A off B1 p q w0.heap.size) w0 a0 (lq.setIfInBounds 3 true) = K at hK ⊢
      clear hJ2 hS z1 z2 z3 z4 z6 z7
      go_simp
      exact hK _ _ z5 (fun _ _ h => h) rfl
    | 4, ho =>
      cases ho
      refine wpOp_of rfl rfl ?_
      have f3 : (aq.tmps.getD 8 undef) = .pointer (some ⟨A, off, none⟩) := z6 3 8 (hall { on := 3, ground := Ground.data } (by simp) rfl) rfl
      have hK := fun (v : Value) (W2 : World) hW hT hv => hJ2.put hS 4 9 rfl (by omega) (W' := W2) hW hT v hv
      clear ho hall hl hQ
      generalize InvQ w0.heap.size [some 5, some 6, some 7, some 8, some 9, some 10, some 11, some 12, some 4] (VregLies bo n cap m cap2 A off B1 p q w0.heap.size) w0 a0 (lq.setIfInBounds 4 true) = K at hK ⊢
      clear hJ2 hS z1 z2 z3 z4 z6 z7
      go_simp
      exact hK _ _ z5 (fun _ _ h => h) rfl
    | 5, ho =>
      cases ho
      refine wpOp_of rfl rfl ?_
      have f4 : (aq.tmps.getD 9 undef) = Sp (p 0).1 (p 0).2 := z6 4 9 (hall { on := 4, ground := Ground.data } (by simp) rfl) rfl
      have hK := fun (v : Value) (W2 : World) hW hT hv => hJ2.put hS 5 10 rfl (by omega) (W' := W2) hW hT v hv
      clear ho hall hl hQ
      generalize InvQ w0.heap.size [some 5, some 6, some 7, some 8, some 9, some 10, some 11, some 12, some 4] (VregLies bo n cap m cap2 A off B1 p q w0.heap.size) w0 a0 (lq.setIfInBounds 5 true) = K at hK ⊢
      clear hJ2 hS z1 z2 z3 z4 z6 z7
      go_simp
      refine (implPointOf_any (p 0).1 (p 0).2 (by omega) (by omega) (by omega) (by omega) W).mono ?_
      rintro e v1 ⟨rfl, hBv⟩
      exact hK _ _ (z5.trans (hBv.mono z5.size)) (fun j v h => h.mono hBv) rfl
    | 6, ho =>
      cases ho
      refine wpOp_of rfl rfl ?_
      have f0 : (aq.tmps.getD 5 undef) = .agg #[.slice bo m cap2] := z6 0 5 (hall { on := 0, ground := Ground.data } (by simp) rfl) rfl
      have f5 : (aq.tmps.getD 10 undef) = PV (p 0).1 (p 0).2 1 := z6 5 10 (hall { on := 5, ground := Ground.data } (by simp) rfl) rfl
      have hK := fun (v : Value) (W2 : World) hW hT hv => hJ2.put hS 6 11 rfl (by omega) (W' := W2) hW hT v hv
      clear ho hall hl hQ
      generalize InvQ w0.heap.size [some 5, some 6, some 7, some 8, some 9, some 10, some 11, some 12, some 4] (VregLies bo n cap m cap2 A off B1 p q w0.heap.size) w0 a0 (lq.setIfInBounds 6 true) = K at hK ⊢
      clear hJ2 hS z1 z2 z3 z4 z6 z7
      go_simp
      refine (side_any bo m cap2 q (p 0).1 (p 0).2 1 hq.h3 hq.h12 hq.ok hq.one (ptB_spot ia ib) W (hS.step z5)).mono ?_
      rintro e v1 ⟨rfl, hBv⟩
      exact hK _ _ (z5.trans (hBv.mono z5.size)) (fun j v h => h.mono hBv) rfl
    | 7, ho =>
      cases ho
      refine wpOp_of rfl rfl ?_
      have f6 : (aq.tmps.getD 11 undef) = .int .i64 (sdR m q (p 0).1 (p 0).2 1) := z6 6 11 (hall { on := 6, ground := Ground.data } (by simp) rfl) rfl
      have hK := fun (v : Value) (W2 : World) hW hT hv => hJ2.put hS 7 12 rfl (by omega) (W' := W2) hW hT v hv
      clear ho hall hl hQ
      generalize InvQ w0.heap.size [some 5, some 6, some 7, some 8, some 9, some 10, some 11, some 12, some 4] (VregLies bo n cap m cap2 A off B1 p q w0.heap.size) w0 a0 (lq.setIfInBounds 7 true) = K at hK ⊢
      clear hJ2 hS z1 z2 z3 z4 z6 z7
      obtain ⟨zc, hzc⟩ : ∃ t, t = sdR m q (p 0).1 (p 0).2 1 := ⟨_, rfl⟩
      rw [← hzc] at f6
      have HZ : Hid (zc = sdR m q (p 0).1 (p 0).2 1) := hzc
      clear hzc
      go_simp
      exact hK _ _ z5 (fun _ _ h => h) (by show Value.bool _ = Value.bool _; unfold inB; rw [← HZ.out])
    | 8, ho =>
      cases ho
      refine wpOp_of rfl rfl ?_
      have f7 : (aq.tmps.getD 12 undef) = .bool (inB p m q) := z6 7 12 (hall { on := 7, ground := Ground.data } (by simp) rfl) rfl
      have hK := fun (v : Value) (W2 : World) hW hT hv => hJ2.put hS 8 4 rfl (by omega) (W' := W2) hW hT v hv
      clear ho hall hl hQ
      generalize InvQ w0.heap.size [some 5, some 6, some 7, some 8, some 9, some 10, some 11, some 12, some 4] (VregLies bo n cap m cap2 A off B1 p q w0.heap.size) w0 a0 (lq.setIfInBounds 8 true) = K at hK ⊢
      clear hJ2 hS z1 z2 z3 z4 z6 z7
      go_simp
      exact hK _ _ z5 (fun _ _ h => h) rfl
    | iq + 9, ho => simp at ho
  · intro lq aq W hJ hr
    obtain ⟨z1, z2, z3, z4, z5, z6, z7⟩ := hJ
    have hl := listed_of hr [0, 1, 2, 3, 4, 5, 6, 7, 8] [] (by simp) (by kernel_rfl) (by rw [z1]; decide)
    exact hQ aq W z2 z3 (fun e he => z4 e (by simpa using he)) (z6 8 4 (hl 8 (by simp)) rfl) z5
set_option maxRecDepth 100000 in
set_option maxHeartbeats 4000000 in
theorem l5Within_any (ao bo : Option Addr) (n cap m cap2 : Nat) (p q : Ps) (hp : RgOk n p) (hq : RgOk m q) (w : World) (hS : SpIn w ao n p) (hSq : SpIn w bo m q) : Calls Tryz.prog 37 #[.agg #[.slice ao n cap], .agg #[.slice bo m cap2]] w (VP (.bool (inB p m q)) w) := by
  have T0 := two_slices w (.slice ao n cap) (.slice bo m cap2) 34
  have h3 := hp.h3
  have h12 := hp.h12
  obtain ⟨ia, ib⟩ := in1_of (hp.ok 0 (by omega))
  have HP : Hid (SpIn w ao n p) := hS
  have HQ : Hid (SpIn w bo m q) := hSq
  clear hS hSq
  go_enter Tryz.func37, Tryz.ntmps37
  go_upto_region 1 with fail
  generalize ((w.alloc (.cells #[.slice ao n cap] 34)).alloc (.cells #[.slice bo m cap2] 34)) = W at *
  obtain ⟨A, off, rfl, hA, q0, q1⟩ := HP.out.step T0.below 0 (by omega)
  simp only [Nat.zero_mul, Nat.add_zero] at q0 q1
  have X0 : Blk _ w.heap.size _ := T0.b 0 rfl; have X1 : Blk _ (w.heap.size + 1) _ := T0.b 1 rfl
  go_cut [4] (fun zv wx => zv = .bool (inB p m q) ∧ Below W.heap.size W wx)
  case first =>
    refine regWithin (bo := bo) (n := n) (cap := cap) (m := m) (cap2 := cap2) (A := A) (off := off) (p := p) (q := q) (B1 := w.heap.size) (B2 := w.heap.size + 1) (by omega) (by omega) hq (HQ.out.step T0.below) ia ib rfl rfl (X0.c 0 rfl) X0.lt (X1.c 0 rfl) X1.lt q0 hA q1 hA rfl ?_
    rintro ⟨tm, df⟩ Wz hz hdf hoff h4 hBz
    simp only at hz hdf hoff h4
    change tm.getD 4 undef = .bool (inB p m q) at h4
    subst hdf
    have htm := tmps_fold [5, 6, 7, 8, 9, 10, 11, 12, 4] tm _ hz hoff
    simp only [List.foldl, List.setIfInBounds_toArray, List.set_cons_zero, List.set_cons_succ, h4] at htm
    clear hz hoff
    generalize tm.getD 5 undef = u0, tm.getD 6 undef = u1, tm.getD 7 undef = u2, tm.getD 8 undef = u3, tm.getD 9 undef = u4, tm.getD 10 undef = u5, tm.getD 11 undef = u6, tm.getD 12 undef = u7 at htm
    clear h4
    subst htm
    go_wp2_with fail
    go_meet
    exact ⟨rfl, hBz⟩
  case rest =>
    obtain ⟨hq2, hB⟩ := hcut
    subst hq2
    have HB := (T0.step hB).below
    clear hB T0 X0 X1 q0 q1
    go_wp2
    go_ret
    exact ⟨rfl, HB⟩
set_option maxRecDepth 100000 in
set_option maxHeartbeats 4000000 in
theorem liesIn_any (ao bo : Option Addr) (n cap m cap2 : Nat) (p q : Ps) (hp : RgOk n p) (hq : RgOk m q) (w : World) (hS : SpIn w ao n p) (hSq : SpIn w bo m q) : Calls Tryz.prog 39 #[.agg #[.slice ao n cap], .agg #[.slice bo m cap2]] w (VP (.bool (inB p m q)) w) := by
  have T0 := two_slices w (.slice ao n cap) (.slice bo m cap2) 34
  have h3 := hp.h3
  have h12 := hp.h12
  obtain ⟨ia, ib⟩ := in1_of (hp.ok 0 (by omega))
  have HP : Hid (SpIn w ao n p) := hS
  have HQ : Hid (SpIn w bo m q) := hSq
  clear hS hSq
  go_enter Tryz.func39, Tryz.ntmps39
  go_upto_region 1 with fail
  generalize ((w.alloc (.cells #[.slice ao n cap] 34)).alloc (.cells #[.slice bo m cap2] 34)) = W at *
  obtain ⟨A, off, rfl, hA, q0, q1⟩ := HP.out.step T0.below 0 (by omega)
  simp only [Nat.zero_mul, Nat.add_zero] at q0 q1
  have X0 : Blk _ w.heap.size _ := T0.b 0 rfl; have X1 : Blk _ (w.heap.size + 1) _ := T0.b 1 rfl
  go_cut [4] (fun zv wx => zv = .bool (inB p m q) ∧ Below W.heap.size W wx)
  case first =>
    refine regLies (bo := bo) (n := n) (cap := cap) (m := m) (cap2 := cap2) (A := A) (off := off) (p := p) (q := q) (B1 := w.heap.size) (B2 := w.heap.size + 1) (by omega) (by omega) hq (HQ.out.step T0.below) ia ib rfl rfl (X0.c 0 rfl) X0.lt (X1.c 0 rfl) X1.lt q0 hA q1 hA rfl ?_
    rintro ⟨tm, df⟩ Wz hz hdf hoff h4 hBz
    simp only at hz hdf hoff h4
    change tm.getD 4 undef = .bool (inB p m q) at h4
    subst hdf
    have htm := tmps_fold [5, 6, 7, 8, 9, 10, 11, 12, 4] tm _ hz hoff
    simp only [List.foldl, List.setIfInBounds_toArray, List.set_cons_zero, List.set_cons_succ, h4] at htm
    clear hz hoff
    generalize tm.getD 5 undef = u0, tm.getD 6 undef = u1, tm.getD 7 undef = u2, tm.getD 8 undef = u3, tm.getD 9 undef = u4, tm.getD 10 undef = u5, tm.getD 11 undef = u6, tm.getD 12 undef = u7 at htm
    clear h4
    subst htm
    go_wp2_with fail
    go_meet
    exact ⟨rfl, hBz⟩
  case rest =>
    obtain ⟨hq2, hB⟩ := hcut
    subst hq2
    have HB := (T0.step hB).below
    clear hB T0 X0 X1 q0 q1
    go_wp2
    go_ret
    exact ⟨rfl, HB⟩
set_option maxRecDepth 100000 in
set_option maxHeartbeats 4000000 in
theorem specRingIn_any (ao bo : Option Addr) (n cap m cap2 : Nat) (p q : Ps) (hn : n ≤ 1048576) (hm : m ≤ 1048576) (w : World) (hS : SpIn w ao n p) (hSq : SpIn w bo m q) : Calls Tryz.prog 14 #[.agg #[.slice ao n cap], .agg #[.slice bo m cap2]] w (VP (.bool (riV n p m q)) w) := by
  have T0 := two_slices w (.slice ao n cap) (.slice bo m cap2) 34
  have HP : Hid (SpIn w ao n p) := hS
  have HQ : Hid (SpIn w bo m q) := hSq
  have O1 := fun w h => l5OkD_any ao n cap p hn w h
  have O2 := fun w h => l5OkD_any bo m cap2 q hm w h
  have MM := fun (h1 : rgF n p = 0) (h2 : rgF m q = 0) w h k => l5Meet_any ao bo n cap m cap2 p q (rgF_ok h1) (rgF_ok h2) w h k
  have NN := fun (h1 : rgF n p = 0) (h2 : rgF m q = 0) w h k => l5Within_any ao bo n cap m cap2 p q (rgF_ok h1) (rgF_ok h2) w h k
  have hv : Hid (riV n p m q = (decide (rgF n p = 0) && (decide (rgF m q = 0) && (!(rmB n p m q) && inB p m q)))) := rfl
  clear hS hSq
  generalize riV n p m q = o at *
  have X0 : Blk _ w.heap.size _ := T0.b 0 rfl; have a0 := X0.c 0 rfl
  go_enter Tryz.func14, Tryz.ntmps14
  go_upto_region 1 with fail
  generalize ((w.alloc (.cells #[.slice ao n cap] 34)).alloc (.cells #[.slice bo m cap2] 34)) = W at *
  go_wp2_with fail
  refine (O1 _ (HP.out.step T0.below)).mono ?_
  rintro e w1 ⟨rfl, hB⟩
  replace T0 := T0.step hB
  clear hB X0 a0 O1
  by_cases h1 : rgF n p = 0
  · rw [decide_eq_true h1]
    have H1 : Hid (rgF n p = 0) := h1
    clear h1
    have X1 : Blk _ (w.heap.size + 1) _ := T0.b 1 rfl; have b0 := X1.c 0 rfl
    go_wp2_with fail
    refine (O2 _ (HQ.out.step T0.below)).mono ?_
    rintro e w2 ⟨rfl, hB⟩
    replace T0 := T0.step hB
    clear hB X1 b0 O2
    by_cases h2 : rgF m q = 0
    · rw [decide_eq_true h2]
      have H2 : Hid (rgF m q = 0) := h2
      clear h2
      have X0 : Blk _ w.heap.size _ := T0.b 0 rfl; have a0 := X0.c 0 rfl; have X1 : Blk _ (w.heap.size + 1) _ := T0.b 1 rfl; have b0 := X1.c 0 rfl
      go_wp2_with fail
      refine (MM H1.out H2.out _ (HP.out.step T0.below) (HQ.out.step T0.below)).mono ?_
      rintro e w3 ⟨rfl, hB⟩
      replace T0 := T0.step hB
      clear hB X0 a0 X1 b0 MM
      have hv2 : Hid (o = (!(rmB n p m q) && inB p m q)) := by show _ = _; rw [hv.out, decide_eq_true H1.out, decide_eq_true H2.out]; rfl
      clear hv
      cases hz : rmB n p m q
      · have hv3 : Hid (o = inB p m q) := by show _ = _; rw [hv2.out, hz]; rfl
        clear hz hv2
        have X0 : Blk _ w.heap.size _ := T0.b 0 rfl; have a0 := X0.c 0 rfl; have X1 : Blk _ (w.heap.size + 1) _ := T0.b 1 rfl; have b0 := X1.c 0 rfl
        go_wp2_with fail
        refine (NN H1.out H2.out _ (HP.out.step T0.below) (HQ.out.step T0.below)).mono ?_
        rintro e w4 ⟨rfl, hB⟩
        have HB := (T0.step hB).below
        clear hB X0 a0 X1 b0 NN T0
        generalize inB p m q = zi at *
        cases zi
        all_goals go_wp2
        all_goals go_ret
        all_goals exact ⟨by rw [hv3.out]; rfl, HB⟩
      · have hv3 : Hid (o = false) := by show _ = _; rw [hv2.out, hz]; rfl
        have HB := T0.below
        clear hz hv2 NN T0
        go_wp2
        go_ret
        exact ⟨by rw [hv3.out]; rfl, HB⟩
    · rw [decide_eq_false h2]
      have hv2 : Hid (o = false) := by show _ = _; rw [hv.out, decide_eq_false h2, Bool.false_and, Bool.and_false]
      have HB := T0.below
      clear h2 hv T0 MM NN
      go_wp2
      go_ret
      exact ⟨by rw [hv2.out]; rfl, HB⟩
  · rw [decide_eq_false h1]
    have hv2 : Hid (o = false) := by show _ = _; rw [hv.out, decide_eq_false h1, Bool.false_and]
    have HB := T0.below
    clear h1 hv T0 MM O2 NN
    go_wp2
    go_ret
    exact ⟨by rw [hv2.out]; rfl, HB⟩
set_option maxRecDepth 100000 in
set_option maxHeartbeats 4000000 in
theorem implRingIn_any (ao bo : Option Addr) (n cap m cap2 : Nat) (p q : Ps) (hn : n ≤ 1048576) (hm : m ≤ 1048576) (hc1 : n ≤ cap) (hc2 : cap ≤ 9223372036854775807) (hc3 : m ≤ cap2) (hc4 : cap2 ≤ 9223372036854775807) (w : World) (hS : SpIn w ao n p) (hSq : SpIn w bo m q) : Calls Tryz.prog 15 #[.agg #[.slice ao n cap], .agg #[.slice bo m cap2]] w (VP (.bool (riV n p m q)) w) := by
  have T0 := two_slices w (.slice ao n cap) (.slice bo m cap2) 34
  have HP : Hid (SpIn w ao n p) := hS
  have HQ : Hid (SpIn w bo m q) := hSq
  have O1 := fun w h => rright_any ao n cap p hn hc1 hc2 w h
  have O2 := fun w h => rright_any bo m cap2 q hm hc3 hc4 w h
  have MM := fun (h1 : rgF n p = 0) (h2 : rgF m q = 0) w h k => meets_any ao bo n cap m cap2 p q (rgF_ok h1).h3 (rgF_ok h1).h12 (rgF_ok h1).ok (rgF_ok h1).one (rgF_ok h2).h3 (rgF_ok h2).h12 (rgF_ok h2).ok (rgF_ok h2).one w h k
  have NN := fun (h1 : rgF n p = 0) (h2 : rgF m q = 0) w h k => liesIn_any ao bo n cap m cap2 p q (rgF_ok h1) (rgF_ok h2) w h k
  have hv : Hid (riV n p m q = (decide (rgF n p = 0) && (decide (rgF m q = 0) && (!(rmB n p m q) && inB p m q)))) := rfl
  clear hS hSq
  generalize riV n p m q = o at *
  have X0 : Blk _ w.heap.size _ := T0.b 0 rfl; have a0 := X0.c 0 rfl
  go_enter Tryz.func15, Tryz.ntmps15
  go_upto_region 1 with fail
  generalize ((w.alloc (.cells #[.slice ao n cap] 34)).alloc (.cells #[.slice bo m cap2] 34)) = W at *
  go_wp2_with fail
  refine (O1 _ (HP.out.step T0.below)).mono ?_
  rintro e w1 ⟨rfl, hB⟩
  replace T0 := T0.step hB
  clear hB X0 a0 O1
  by_cases h1 : rgF n p = 0
  · rw [decide_eq_true h1]
    have H1 : Hid (rgF n p = 0) := h1
    clear h1
    have X1 : Blk _ (w.heap.size + 1) _ := T0.b 1 rfl; have b0 := X1.c 0 rfl
    go_wp2_with fail
    refine (O2 _ (HQ.out.step T0.below)).mono ?_
    rintro e w2 ⟨rfl, hB⟩
    replace T0 := T0.step hB
    clear hB X1 b0 O2
    by_cases h2 : rgF m q = 0
    · rw [decide_eq_true h2]
      have H2 : Hid (rgF m q = 0) := h2
      clear h2
      have X0 : Blk _ w.heap.size _ := T0.b 0 rfl; have a0 := X0.c 0 rfl; have X1 : Blk _ (w.heap.size + 1) _ := T0.b 1 rfl; have b0 := X1.c 0 rfl
      go_wp2_with fail
      refine (MM H1.out H2.out _ (HP.out.step T0.below) (HQ.out.step T0.below)).mono ?_
      rintro e w3 ⟨rfl, hB⟩
      replace T0 := T0.step hB
      clear hB X0 a0 X1 b0 MM
      have hv2 : Hid (o = (!(rmB n p m q) && inB p m q)) := by show _ = _; rw [hv.out, decide_eq_true H1.out, decide_eq_true H2.out]; rfl
      clear hv
      cases hz : rmB n p m q
      · have hv3 : Hid (o = inB p m q) := by show _ = _; rw [hv2.out, hz]; rfl
        clear hz hv2
        have X0 : Blk _ w.heap.size _ := T0.b 0 rfl; have a0 := X0.c 0 rfl; have X1 : Blk _ (w.heap.size + 1) _ := T0.b 1 rfl; have b0 := X1.c 0 rfl
        go_wp2_with fail
        refine (NN H1.out H2.out _ (HP.out.step T0.below) (HQ.out.step T0.below)).mono ?_
        rintro e w4 ⟨rfl, hB⟩
        have HB := (T0.step hB).below
        clear hB X0 a0 X1 b0 NN T0
        generalize inB p m q = zi at *
        cases zi
        all_goals go_wp2
        all_goals go_ret
        all_goals exact ⟨by rw [hv3.out]; rfl, HB⟩
      · have hv3 : Hid (o = false) := by show _ = _; rw [hv2.out, hz]; rfl
        have HB := T0.below
        clear hz hv2 NN T0
        go_wp2
        go_ret
        exact ⟨by rw [hv3.out]; rfl, HB⟩
    · rw [decide_eq_false h2]
      have hv2 : Hid (o = false) := by show _ = _; rw [hv.out, decide_eq_false h2, Bool.false_and, Bool.and_false]
      have HB := T0.below
      clear h2 hv T0 MM NN
      go_wp2
      go_ret
      exact ⟨by rw [hv2.out]; rfl, HB⟩
  · rw [decide_eq_false h1]
    have hv2 : Hid (o = false) := by show _ = _; rw [hv.out, decide_eq_false h1, Bool.false_and]
    have HB := T0.below
    clear h1 hv T0 MM O2 NN
    go_wp2
    go_ret
    exact ⟨by rw [hv2.out]; rfl, HB⟩
set_option maxRecDepth 100000 in
set_option maxHeartbeats 8000000 in
theorem lawRingIn_any (ao bo : Option Addr) (n cap m cap2 : Nat) (p q : Ps) (hn : n ≤ 9223372036854775807) (hm : m ≤ 9223372036854775807) (w : World) (hS : SpIn w ao n p) (hSq : SpIn w bo m q) : Calls Tryz.prog 4 #[.agg #[.slice ao n cap], .agg #[.slice bo m cap2]] w (BoolP true w) := by
  have T0 := two_slices w (.slice ao n cap) (.slice bo m cap2) 24
  have HP : Hid (SpIn w ao n p) := hS
  have HQ : Hid (SpIn w bo m q) := hSq
  have SZ := szRing_any ao n cap 1048576 (by omega) (by omega) hn
  clear hS hSq
  have X0 : Blk _ w.heap.size _ := T0.b 0 rfl; have a0 := X0.c 0 rfl
  go_enter Tryz.func4, Tryz.ntmps4
  go_upto_region 2 with fail
  generalize ((w.alloc (.cells #[.slice ao n cap] 24)).alloc (.cells #[.slice bo m cap2] 24)) = W at *
  by_cases hs : n ≤ 1048576
  · rw [if_pos (by omega)] at SZ
    have hsI : (n : Int) ≤ 1048576 := by omega
    go_wp2_with fail
    refine (SZ _).mono ?_
    rintro e w1 ⟨rfl, hB⟩
    replace T0 := T0.step hB
    clear hB SZ X0 a0
    have hz : (0 : Int) ≤ 1048576 - n := by omega
    have SZ2 := szRing_any bo m cap2 (1048576 - n) (by omega) (by omega) hm
    have X1 : Blk _ (w.heap.size + 1) _ := T0.b 1 rfl; have b0 := X1.c 0 rfl
    go_upto_region 5 with fail
    by_cases hs2 : (m : Int) ≤ 1048576 - n
    · rw [if_pos hs2] at SZ2
      go_wp2_with fail
      refine (SZ2 _).mono ?_
      rintro e w2 ⟨rfl, hB⟩
      replace T0 := T0.step hB
      clear hB SZ2 X1 b0
      have hz2 : (0 : Int) ≤ 1048576 - n - m := by omega
      have T1 := fun w h => toRing_any ao n cap p hs w h
      have T2 := fun w h => toRing_any bo m cap2 q (by omega) w h
      have SP := fun a b w h k => specRingIn_any a b n n m m p q hs (by omega) w h k
      have IM := fun a b w h k => implRingIn_any a b n n m m p q hs (by omega) (Nat.le_refl _) (by omega) (Nat.le_refl _) (by omega) w h k
      have EQ1 := fun a b w h k => eqRing_any a b n n n p hs w h k
      have EQ2 := fun a b w h k => eqRing_any a b m m m q (by omega) w h k
      generalize riV n p m q = o at *
      have hoo : (o != o) = false := by simp
      have H0 : Below w2.heap.size w2 w2 := Below.refl _ _
      have HK : ∀ V, Below w2.heap.size w2 V → (fun w' : World => w'.cell? ⟨w.heap.size, 0, none⟩ = some (.slice ao n cap) ∧ w'.cell? ⟨w.heap.size + 1, 0, none⟩ = some (.slice bo m cap2)) V := fun V h => ⟨((T0.b 0 rfl).step h).c 0 rfl, ((T0.b 1 rfl).step h).c 0 rfl⟩
      have SA : Hid (SpIn w2 ao n p) := HP.out.step T0.below
      have SB : Hid (SpIn w2 bo m q) := HQ.out.step T0.below
      have tk1 : True := trivial
      go_upto_region 8 with fail
      go_cut [6] (fun z wx => z = .bool o ∧ Below w2.heap.size w2 wx)
      case first =>
        clear EQ1 EQ2 IM HP HQ
        go_region_held3 (fun w' : World => w'.cell? ⟨w.heap.size, 0, none⟩ = some (.slice ao n cap) ∧ w'.cell? ⟨w.heap.size + 1, 0, none⟩ = some (.slice bo m cap2)) (refine HK _ ?_ <;> repeat (first | (with_reducible exact H0) | (with_reducible refine Below.drew ?_)))
          (first
            | (go_at_call 10; have _t := tk1; refine (T1 _ (SA.out.step (by first | (with_reducible exact H0) | (with_reducible exact H0.drew)))).mono ?_; rintro e w3 ⟨g1, rfl, _, R1, hB⟩; (first | (have Hn : Below w2.heap.size w2 w3 := (by with_reducible exact H0.trans (hB.mono H0.size))) | (have Hn : Below w2.heap.size w2 w3 := (by with_reducible exact H0.drew.trans (hB.mono H0.drew.size)))); have R1' := spIn_row R1; clear hB H0 R1 tk1 _t; have H0 := Hn; clear Hn)
            | (go_at_call 10; refine (T2 _ (SB.out.step (by first | (with_reducible exact H0) | (with_reducible exact H0.drew)))).mono ?_; rintro e w4 ⟨g2, rfl, _, R2, hB⟩; (first | (have Hn : Below w2.heap.size w2 w4 := (by with_reducible exact H0.trans (hB.mono H0.size))) | (have Hn : Below w2.heap.size w2 w4 := (by with_reducible exact H0.drew.trans (hB.mono H0.drew.size)))); have R2' := spIn_row R2; (first | (have R3 := R1'.step hB) | (have R3 := R1'.drew.step hB)); clear hB H0 R2 R1'; have H0 := Hn; clear Hn)
            | (go_at_call 14; refine (SP _ _ _ (by first | (with_reducible exact R3) | (with_reducible exact R3.drew)) (by first | (with_reducible exact R2') | (with_reducible exact R2'.drew))).mono ?_; rintro e w5 ⟨rfl, hB⟩; (first | (have Hn : Below w2.heap.size w2 w5 := (by with_reducible exact H0.trans (hB.mono H0.size))) | (have Hn : Below w2.heap.size w2 w5 := (by with_reducible exact H0.drew.trans (hB.mono H0.drew.size)))); clear hB H0; have H0 := Hn; clear Hn))
        all_goals go_wp2_with fail
        all_goals go_meet
        all_goals exact ⟨rfl, by first | (with_reducible exact H0) | (with_reducible exact H0.drew)⟩
      case rest =>
        obtain ⟨hq, hB⟩ := hcut
        subst hq
        generalize wc = w5 at *
        replace T0 := T0.step hB
        clear hB H0 HK SA SB SP tk1
        have X0 : Blk _ w.heap.size _ := T0.b 0 rfl; have a0 := X0.c 0 rfl
        go_wp2_with fail
        refine (T1 _ (HP.out.step T0.below)).mono ?_
        rintro e w6 ⟨g1, rfl, _, R1, hB⟩
        replace T0 := T0.step hB
        have R1' := spIn_row R1
        clear hB X0 a0 R1
        have B5 := Blk.new w6 [.slice (some ⟨g1, 0, none⟩) n n] 34 rfl
        have hB6 := (Below.refl w6.heap.size w6).alloc (Nat.le_refl _) (.cells #[.slice (some ⟨g1, 0, none⟩) n n] 34)
        replace T0 := T0.step hB6
        replace R1' := R1'.step hB6
        clear hB6
        go_upto_region 10 with fail
        generalize w6.alloc (.cells #[.slice (some ⟨g1, 0, none⟩) n n] 34) = W6 at *
        have X1 : Blk _ (w.heap.size + 1) _ := T0.b 1 rfl; have b0 := X1.c 0 rfl
        go_wp2_with fail
        refine (T2 _ (HQ.out.step T0.below)).mono ?_
        rintro e w7 ⟨g2, rfl, _, R2, hB⟩
        replace T0 := T0.step hB
        replace R1' := R1'.step hB
        replace B5 := B5.step hB
        have R2' := spIn_row R2
        clear hB X1 b0 R2
        have B7 := Blk.new w7 [.slice (some ⟨g2, 0, none⟩) m m] 34 rfl
        have hB8 := (Below.refl w7.heap.size w7).alloc (Nat.le_refl _) (.cells #[.slice (some ⟨g2, 0, none⟩) m m] 34)
        replace T0 := T0.step hB8
        replace R1' := R1'.step hB8
        replace R2' := R2'.step hB8
        replace B5 := B5.step hB8
        clear hB8
        go_upto_region 11 with fail
        generalize w7.alloc (.cells #[.slice (some ⟨g2, 0, none⟩) m m] 34) = W7 at *
        have c0 := B5.c 0 rfl; have d0 := B7.c 0 rfl
        go_wp2_with fail
        refine (IM _ _ _ R1' R2').mono ?_
        rintro e w8 ⟨rfl, hB⟩
        replace T0 := T0.step hB
        replace R1' := R1'.step hB
        replace R2' := R2'.step hB
        replace B5 := B5.step hB
        replace B7 := B7.step hB
        clear hB c0 d0 IM
        have SA : Hid (SpIn w8 ao n p) := HP.out.step T0.below
        clear HP
        go_upto_region 14 with fail
        go_cut [39] (fun z wx => z = .bool false ∧ Below w8.heap.size w8 wx)
        case first =>
          have H0 : Below w8.heap.size w8 w8 := Below.refl _ _
          have HK : ∀ V, Below w8.heap.size w8 V → (fun w' : World => w'.cell? ⟨w6.heap.size, 0, none⟩ = some (.slice (some ⟨g1, 0, none⟩) n n) ∧ w'.cell? ⟨w.heap.size, 0, none⟩ = some (.slice ao n cap)) V := fun V h => ⟨(B5.step h).c 0 rfl, ((T0.b 0 rfl).step h).c 0 rfl⟩
          go_region_held3 (fun w' : World => w'.cell? ⟨w6.heap.size, 0, none⟩ = some (.slice (some ⟨g1, 0, none⟩) n n) ∧ w'.cell? ⟨w.heap.size, 0, none⟩ = some (.slice ao n cap)) (refine HK _ ?_ <;> repeat (first | (with_reducible exact H0) | (with_reducible refine Below.drew ?_)))
            (first
              | (go_at_call 10; refine (T1 _ (SA.out.step (by first | (with_reducible exact H0) | (with_reducible exact H0.drew)))).mono ?_; rintro e w9 ⟨g3, rfl, _, R3, hB⟩; (first | (have Hn : Below w8.heap.size w8 w9 := (by with_reducible exact H0.trans (hB.mono H0.size))) | (have Hn : Below w8.heap.size w8 w9 := (by with_reducible exact H0.drew.trans (hB.mono H0.drew.size)))); have R3' := spIn_row R3; clear hB H0 R3; have H0 := Hn; clear Hn)
              | (go_at_call 13; refine (EQ1 _ _ _ (R1'.step (by first | (with_reducible exact H0) | (with_reducible exact H0.drew))) (by first | (with_reducible exact R3') | (with_reducible exact R3'.drew))).mono ?_; rintro e w10 ⟨rfl, hB⟩; (first | (have Hn : Below w8.heap.size w8 w10 := (by with_reducible exact H0.trans (hB.mono H0.size))) | (have Hn : Below w8.heap.size w8 w10 := (by with_reducible exact H0.drew.trans (hB.mono H0.drew.size)))); clear hB H0; have H0 := Hn; clear Hn))
          all_goals go_wp2_with fail
          all_goals go_meet
          all_goals exact ⟨rfl, by first | (with_reducible exact H0) | (with_reducible exact H0.drew)⟩
        case rest =>
          obtain ⟨hq, hB⟩ := hcut
          subst hq
          generalize wc = w11 at *
          replace T0 := T0.step hB
          replace R2' := R2'.step hB
          replace B7 := B7.step hB
          clear hB R1' B5 T1 EQ1 SA
          have SB : Hid (SpIn w11 bo m q) := HQ.out.step T0.below
          clear HQ
          go_upto_region 16 with fail
          go_cut [44] (fun z wx => z = .bool false ∧ Below w11.heap.size w11 wx)
          case first =>
            have H0 : Below w11.heap.size w11 w11 := Below.refl _ _
            have HK : ∀ V, Below w11.heap.size w11 V → (fun w' : World => w'.cell? ⟨w7.heap.size, 0, none⟩ = some (.slice (some ⟨g2, 0, none⟩) m m) ∧ w'.cell? ⟨w.heap.size + 1, 0, none⟩ = some (.slice bo m cap2)) V := fun V h => ⟨(B7.step h).c 0 rfl, ((T0.b 1 rfl).step h).c 0 rfl⟩
            go_region_held3 (fun w' : World => w'.cell? ⟨w7.heap.size, 0, none⟩ = some (.slice (some ⟨g2, 0, none⟩) m m) ∧ w'.cell? ⟨w.heap.size + 1, 0, none⟩ = some (.slice bo m cap2)) (refine HK _ ?_ <;> repeat (first | (with_reducible exact H0) | (with_reducible refine Below.drew ?_)))
              (first
                | (go_at_call 10; refine (T2 _ (SB.out.step (by first | (with_reducible exact H0) | (with_reducible exact H0.drew)))).mono ?_; rintro e w12 ⟨g3, rfl, _, R3, hB⟩; (first | (have Hn : Below w11.heap.size w11 w12 := (by with_reducible exact H0.trans (hB.mono H0.size))) | (have Hn : Below w11.heap.size w11 w12 := (by with_reducible exact H0.drew.trans (hB.mono H0.drew.size)))); have R3' := spIn_row R3; clear hB H0 R3; have H0 := Hn; clear Hn)
                | (go_at_call 13; refine (EQ2 _ _ _ (R2'.step (by first | (with_reducible exact H0) | (with_reducible exact H0.drew))) (by first | (with_reducible exact R3') | (with_reducible exact R3'.drew))).mono ?_; rintro e w13 ⟨rfl, hB⟩; (first | (have Hn : Below w11.heap.size w11 w13 := (by with_reducible exact H0.trans (hB.mono H0.size))) | (have Hn : Below w11.heap.size w11 w13 := (by with_reducible exact H0.drew.trans (hB.mono H0.drew.size)))); clear hB H0; have H0 := Hn; clear Hn))
            all_goals go_wp2_with fail
            all_goals go_meet
            all_goals exact ⟨rfl, by first | (with_reducible exact H0) | (with_reducible exact H0.drew)⟩
          case rest =>
            obtain ⟨hq, hB⟩ := hcut
            subst hq
            have HB := (T0.step hB).below
            clear hB R2' B7 T2 EQ2 SB T0
            go_wp2
            go_ret
            exact ⟨rfl, HB⟩
    · rw [if_neg hs2] at SZ2
      go_wp2_with fail
      refine (SZ2 _).mono ?_
      rintro e w2 ⟨rfl, hB⟩
      have HB := (T0.step hB).below
      clear hB SZ2 X1 b0 T0
      go_wp2
      go_ret
      exact ⟨rfl, HB⟩
  · rw [if_neg (by omega)] at SZ
    go_wp2_with fail
    refine (SZ _).mono ?_
    rintro e w1 ⟨rfl, hB⟩
    have HB := (T0.step hB).below
    clear hB SZ X0 a0 T0
    go_wp2
    go_ret
    exact ⟨rfl, HB⟩
end Go.Proofs.YtibbjjlapglndaaGreat

/- Rows of rings: copied, held against one another, counted. -/
namespace Go.Proofs.YtibbjjlapglndaaGreat
open Go.RowKit
/-- n rings lie behind a slice's address, each a slice of spots. -/
def RgIn (w : World) (ao : Option Addr) (n : Nat) (S : Nat → Option Addr × Nat) (L : Nat → Nat) (q : Nat → Ps) : Prop :=
  ∀ i, i < n → ∃ A off, ao = some ⟨A, off, none⟩ ∧ A < w.heap.size ∧ w.cell? ⟨A, off + i, none⟩ = some (.slice (S i).1 (L i) (S i).2) ∧ SpIn w (S i).1 (L i) (q i)
theorem RgIn.step {w w' : World} {ao : Option Addr} {n : Nat} {S : Nat → Option Addr × Nat} {L : Nat → Nat} {q : Nat → Ps} (h : RgIn w ao n S L q) (hB : Below w.heap.size w w') : RgIn w' ao n S L q := fun i hi => by
  obtain ⟨A, off, e, hA, h0, h1⟩ := h i hi
  exact ⟨A, off, e, Nat.lt_of_lt_of_le hA hB.size, (hB.cell (p := ⟨A, off + i, none⟩) hA).trans h0, h1.step hB⟩
theorem RgIn.set {w : World} {ao : Option Addr} {n : Nat} {S : Nat → Option Addr × Nat} {L : Nat → Nat} {q : Nat → Ps} (h : RgIn w ao n S L q) {p : Addr} (ha : ∀ a, ao = some a → a.block ≠ p.block) (hb : ∀ i a, i < n → (S i).1 = some a → a.block ≠ p.block) (u : Value) : RgIn (w.setCell p u) ao n S L q := fun i hi => by
  obtain ⟨A, off, e, hA, h0, h1⟩ := h i hi
  have hk : ∀ g, g ≠ p.block → (w.setCell p u).heap[g]? = w.heap[g]? := fun g hg => Below.heap_setCell _ _ _ _ hg
  refine ⟨A, off, e, by simpa [World.setCell] using hA, (World.cell?_of_block (a := ⟨A, off + i, none⟩) (hk A (ha _ e))).trans h0, fun k hk2 => ?_⟩
  obtain ⟨A2, off2, e2, hA2, c0, c1⟩ := h1 k hk2
  exact ⟨A2, off2, e2, by simpa [World.setCell] using hA2, (World.cell?_of_block (a := ⟨A2, off2 + k * 2, none⟩) (hk A2 (hb i _ hi e2))).trans c0, (World.cell?_of_block (a := ⟨A2, off2 + k * 2 + 1, none⟩) (hk A2 (hb i _ hi e2))).trans c1⟩
theorem RgIn.drew {w : World} {ao : Option Addr} {n : Nat} {S : Nat → Option Addr × Nat} {L : Nat → Nat} {q : Nat → Ps} (h : RgIn w ao n S L q) : RgIn w.drew ao n S L q := h
end Go.Proofs.YtibbjjlapglndaaGreat

/- How spots and segments read as data, beside points: opened and shut. -/
namespace Go.Proofs.YtibbjjlapglndaaGreat
open Go.ChangeShapes Go.WideShapes Go.ChangeAt Go.RowKit Go.Joins
abbrev Wf (x : Int) : Prop := (Lit.int .i64 x).wf = true
abbrev SpD {H : Type} (x y : Int) : DataW H := .agg [.lit (.int .i64 x), .lit (.int .i64 y)]
theorem trod_spot {H : Type} {enc : TypeId × Value → H} {w : World} {base : Nat} {spare : TypeId → Bool} {held : Bool} {n : Nat} {c0 c1 : Value} {y : DataW H × List MemPlace} (h : DataW.trod enc Tryz.prog w base spare held n 90 [c0, c1] = some y) :
    ∃ a b : Int, c0 = .int .i64 a ∧ c1 = .int .i64 b ∧ y = (SpD a b, []) ∧ Wf a ∧ Wf b := by
  obtain ⟨y0, y1, m, hx, _, h0, h1⟩ := trod_struct2 Tryz.underlying90 h
  obtain ⟨a, e0, rfl, wa⟩ := DataW.trod_int Tryz.underlying2 h0
  obtain ⟨b, e1, rfl, wb⟩ := DataW.trod_int Tryz.underlying2 h1
  have k : Tryz.prog.cellsOf 2 = 1 := by kernel_rfl
  simp [k] at e0 e1
  exact ⟨a, b, e0, e1, hx, wa, wb⟩
end Go.Proofs.YtibbjjlapglndaaGreat

/- How rings, and rows of rings, read as data. -/
namespace Go.Proofs.YtibbjjlapglndaaGreat
open Go.ChangeShapes Go.WideShapes Go.ChangeAt Go.RowKit Go.Joins
theorem Tryz.laidOut : laidOutB Tryz.prog = true := by kernel_rfl
theorem Tryz.cellsSpotL : Tryz.prog.cellsOf 90 = 2 := by kernel_rfl
theorem Tryz.cellsRing : Tryz.prog.cellsOf 24 = 1 := by kernel_rfl
theorem Tryz.cellsSpotS : Tryz.prog.cellsOf 22 = 1 := by kernel_rfl
theorem spots_of {H : Type} {enc : TypeId × Value → H} {W : World} {a : Addr} {len m n : Nat} {D : Nat → DataW H} {Pl : Nat → List MemPlace} (hl : len ≤ m)
    (hx : ∀ i, i < m → ∃ cs', W.cells? 0 (a.add (i * Tryz.prog.cellsOf 90)) (Tryz.prog.cellsOf 90) = some cs' ∧ DataW.trod enc Tryz.prog W 0 (fun _ => true) true n 90 cs' = some (D i, Pl i))
    (hlt : ∀ x ∈ MemPlace.row a (m * Tryz.prog.cellsOf 90), x.block < W.heap.size) : ∃ p : Ps, SpIn W (some a) len p := by
  rw [Tryz.cellsSpotL] at hx hlt
  have each : ∀ i, i < m → ∃ q : Int × Int, W.cell? (a.add (i * 2)) = some (.int .i64 q.1) ∧ W.cell? (a.add (i * 2 + 1)) = some (.int .i64 q.2) := by
    intro i hi
    obtain ⟨cs', h1, h2⟩ := hx i hi
    obtain ⟨_, hlen, hcell⟩ := World.cells?_some h1
    match cs', hlen with
    | [v0, v1], _ =>
      have e0 := hcell 0 (by omega); have e1 := hcell 1 (by omega)
      rw [Go.Deep.add_add] at e0 e1
      obtain ⟨x, y, rfl, rfl, -, -, -⟩ := trod_spot h2
      exact ⟨(x, y), by simpa using e0, by simpa using e1⟩
  obtain ⟨q, hq⟩ := Go.Deep.choose_lt each
  obtain ⟨ab, ao, spot⟩ := a
  refine ⟨q, fun i hi => ?_⟩
  have hspot : spot = none := by simpa [Addr.add] using World.cell?_spot (hq 0 (by omega)).1
  subst hspot
  obtain ⟨c0, c1⟩ := hq i (by omega)
  rw [Addr.add_lit] at c0 c1
  exact ⟨ab, ao, rfl, hlt (.cell ab (ao + i * 2)) (by simp only [MemPlace.row, List.mem_map, List.mem_range]; exact ⟨i * 2, by omega, rfl⟩), c0, by simpa [Nat.add_assoc] using c1⟩
set_option maxRecDepth 100000 in
/-- A ring that is handed in: a slice of spots. -/
theorem open_ring {H : Type} {enc : TypeId × Value → H} {W : World} {base : Nat} {v : Value} {d : DataW H} {pl : List MemPlace} (ok : Value.okWide Tryz.prog W .any base 24 v) (h : DataW.Trod enc Tryz.prog W 0 (fun _ => true) true 24 v d pl) (hlt : ∀ x ∈ pl, x.block < W.heap.size) :
    ∃ ao n cap p, v = .agg #[.slice ao n cap] ∧ n ≤ 9223372036854775807 ∧ SpIn W ao n p := by
  obtain ⟨cs, rfl, hsz⟩ := okWide_struct Tryz.underlying24 ok
  rw [Tryz.cellsRing] at hsz
  obtain ⟨c0, rfl⟩ : ∃ c0, cs = #[c0] := by
    obtain ⟨l⟩ := cs
    match l, hsz with
    | [c0], _ => exact ⟨c0, rfl⟩
  obtain ⟨fuel, hf⟩ := h
  simp only [Value.cells] at hf
  obtain ⟨y0, k, hy, _, g0⟩ := trod_struct1 Tryz.underlying24 hf
  simp [Tryz.cellsSpotS] at g0
  have hpl : pl = y0.2 := by have := congrArg Prod.snd hy; simpa using this
  rcases Go.Deep.open_slice Tryz.underlying22 g0 with ⟨hcs, -⟩ | ⟨a', len', cap', m', n', D', Pl', hcs, _, hl', hm', hz', hx', hel'⟩
  · simp at hcs
    subst hcs
    exact ⟨none, 0, 0, fun _ => (0, 0), rfl, Nat.zero_le _, fun i hi => absurd hi (Nat.not_lt_zero _)⟩
  · simp at hcs
    subst hcs
    simp only [if_true] at hz'
    have hb : ∀ x ∈ MemPlace.row a' (m' * Tryz.prog.cellsOf 90), x.block < W.heap.size := fun x hxx => hlt x (by
      rw [hpl, hx']
      exact List.mem_append_left _ hxx)
    obtain ⟨p, hp⟩ := spots_of (len := len') (by omega) hel' hb
    exact ⟨some a', len', cap', p, rfl, by have := hm'; simp [maxLen] at this; omega, hp⟩
end Go.Proofs.YtibbjjlapglndaaGreat

/- What the row of a law asks of the program as a whole, each by itself. -/
namespace Go.Proofs.YtibbjjlapglndaaGreat
open Go.ChangeShapes Go.WideShapes Go.ChangeAt Go.RowKit Go.Joins
theorem jn_laid : laidOutB Tryz.pinned.checked.prog = true := by kernel_rfl
theorem jn_maps : mapsRowed Tryz.pinned.checked.prog = true := by kernel_rfl
theorem jn_enter : Tryz.pinned.checked.prog.mayEnter = true := by kernel_rfl
theorem jn_heard : Tryz.pinned.checked.prog.stopsHeard = true := by kernel_rfl
end Go.Proofs.YtibbjjlapglndaaGreat
