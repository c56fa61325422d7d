/- Part 17 of the walks that the proof leans on. -/
import Derived.Test.YtibbjjlapglndaaGreatLs12
import Derived.Test.YtibbjjlapglndaaGreatLs13
import Derived.Test.YtibbjjlapglndaaGreatLs16
import Derived.Test.YtibbjjlapglndaaGreatLs10
import Derived.Test.YtibbjjlapglndaaGreatLs8
import Derived.Test.YtibbjjlapglndaaGreatLs7
import Derived.Test.YtibbjjlapglndaaGreatLs14
namespace Go.Proofs.YtibbjjlapglndaaGreat
open Go.RowKit
def L3W (x y z : Int) (v : Value) (W : World) : Prop :=
 ∃ (s1 : Bool) (o1 : Option Addr) (n1 c1 : Nat) (d1 : List Int) (s2 : Bool) (o2 : Option Addr) (n2 c2 : Nat) (d2 : List Int) (s3 : Bool) (o3 : Option Addr) (n3 c3 : Nat) (d3 : List Int), v = .agg #[.bool s1, .slice o1 n1 c1, .bool s2, .slice o2 n2 c2, .bool s3, .slice o3 n3 c3] ∧ IsNum W s1 o1 n1 c1 d1 x 8 ∧ IsNum W s2 o2 n2 c2 d2 y 8 ∧ IsNum W s3 o3 n3 c3 d3 z 8
theorem L3W.step {x y z : Int} {v : Value} {W W2 : World} (h : L3W x y z v W) (hB : Below W.heap.size W W2) : L3W x y z v W2 := by
 obtain ⟨s1, o1, n1, c1, d1, s2, o2, n2, c2, d2, s3, o3, n3, c3, d3, e, N1, N2, N3⟩ := h
 exact ⟨s1, o1, n1, c1, d1, s2, o2, n2, c2, d2, s3, o3, n3, c3, d3, e, N1.below hB, N2.below hB, N3.below hB⟩
def VregCuts (a b c d x y z : Int) (Bs : Nat) (rs1 rs2 rs3 : Bool) (ro1 ro2 ro3 : Option Addr) (rn1 rc1 rn2 rc2 rn3 rc3 : Nat) (_B : Nat) : Nat → Value → World → Prop
 | 0, v, _ => v = .pointer (some ⟨Bs, 0, none⟩)
 | 1, v, _ => v = Sp a b
 | 2, v, W => L3W a b 1 v W
 | 3, v, _ => v = .pointer (some ⟨Bs, 2, none⟩)
 | 4, v, _ => v = Sp c d
 | 5, v, W => L3W c d 1 v W
 | 6, v, _ => v = .agg #[.bool rs1, .slice ro1 rn1 rc1, .bool rs2, .slice ro2 rn2 rc2, .bool rs3, .slice ro3 rn3 rc3]
 | 7, v, _ => v = .bool (ctB a b 1 c d 1 x y z)
 | _, _, _ => True
theorem VregCuts.mono {a b c d x y z : Int} {Bs : Nat} {rs1 rs2 rs3 : Bool} {ro1 ro2 ro3 : Option Addr} {rn1 rc1 rn2 rc2 rn3 rc3 : Nat} {B j : Nat} {v : Value} {W W2 : World} (hB : Below W.heap.size W W2) (h : VregCuts a b c d x y z Bs rs1 rs2 rs3 ro1 ro2 ro3 rn1 rc1 rn2 rc2 rn3 rc3 B j v W) : VregCuts a b c d x y z Bs rs1 rs2 rs3 ro1 ro2 ro3 rn1 rc1 rn2 rc2 rn3 rc3 B j v W2 := by
 unfold VregCuts at *
 split <;> simp only at h <;> first | exact h | exact h.step hB | trivial
set_option maxRecDepth 100000 in
set_option maxHeartbeats 4000000 in
theorem regCuts {Q : Exit → Act → World → Prop} {a b c d x y z : Int} {Bs : Nat} {rs1 rs2 rs3 : Bool} {ro1 ro2 ro3 : Option Addr} {rn1 rc1 rn2 rc2 rn3 rc3 : Nat} {Bp : Nat} {rd1 rd2 rd3 : List Int} {w0 : World} {a0 : Act} {idq : Nat} {t0 t1 t2 t3 t4 t5 t6 t7 : TypeId} {q0 q1 q2 q3 q4 q5 q6 q7 : String}
   (ia : -1000000 ≤ a ∧ a ≤ 1000000) (ib : -1000000 ≤ b ∧ b ≤ 1000000) (ic : -1000000 ≤ c ∧ c ≤ 1000000) (jd : -1000000 ≤ d ∧ d ≤ 1000000) (Nr1 : IsNum w0 rs1 ro1 rn1 rc1 rd1 x 8) (Nr2 : IsNum w0 rs2 ro2 rn2 rc2 rd2 y 8) (Nr3 : IsNum w0 rs3 ro3 rn3 rc3 rd3 z 8) (h3 : a0.tmps[3]? = some (.pointer (some ⟨Bp, 0, none⟩))) (h7 : a0.tmps[7]? = some (.pointer (some ⟨Bs, 0, none⟩))) (k0 : w0.cell? ⟨Bs, 0, none⟩ = some (.int .i64 a)) (l0 : (⟨Bs, 0, none⟩ : Addr).block < w0.heap.size) (k1 : w0.cell? ⟨Bs, 1, none⟩ = some (.int .i64 b)) (l1 : (⟨Bs, 1, none⟩ : Addr).block < w0.heap.size) (k2 : w0.cell? ⟨Bs, 2, none⟩ = some (.int .i64 c)) (l2 : (⟨Bs, 2, none⟩ : Addr).block < w0.heap.size) (k3 : w0.cell? ⟨Bs, 3, none⟩ = some (.int .i64 d)) (l3 : (⟨Bs, 3, none⟩ : Addr).block < w0.heap.size) (k4 : w0.cell? ⟨Bp, 0, none⟩ = some (.bool rs1)) (l4 : (⟨Bp, 0, none⟩ : Addr).block < w0.heap.size) (k5 : w0.cell? ⟨Bp, 1, none⟩ = some (.slice ro1 rn1 rc1)) (l5 : (⟨Bp, 1, none⟩ : Addr).block < w0.heap.size) (k6 : w0.cell? ⟨Bp, 2, none⟩ = some (.bool rs2)) (l6 : (⟨Bp, 2, none⟩ : Addr).block < w0.heap.size) (k7 : w0.cell? ⟨Bp, 3, none⟩ = some (.slice ro2 rn2 rc2)) (l7 : (⟨Bp, 3, none⟩ : Addr).block < w0.heap.size) (k8 : w0.cell? ⟨Bp, 4, none⟩ = some (.bool rs3)) (l8 : (⟨Bp, 4, none⟩ : Addr).block < w0.heap.size) (k9 : w0.cell? ⟨Bp, 5, none⟩ = some (.slice ro3 rn3 rc3)) (l9 : (⟨Bp, 5, none⟩ : Addr).block < w0.heap.size) (hz : a0.tmps.size = 32)
   (hQ : ∀ aq W, aq.tmps.size = a0.tmps.size → aq.defers = a0.defers → (∀ e, e ∉ ([21, 22, 23, 24, 25, 26, 27, 28] : List Nat) → aq.tmps[e]? = a0.tmps[e]?) → VregCuts a b c d x y z Bs rs1 rs2 rs3 ro1 ro2 ro3 rn1 rc1 rn2 rc2 rn3 rc3 w0.heap.size 7 (aq.tmps.getD 28 undef) W → Below w0.heap.size w0 W → Q .normal aq W) :
   (Code.region idq #[{ dst := some 21, op := Op.fieldAddr 83 (Operand.tmp 7) 0, type := t0, pos := q0, after := #[], guard := none },
   { dst := some 22, op := Op.load 81 (Operand.tmp 21), type := t1, pos := q1, after := #[{ on := 0, ground := Ground.data }], guard := none },
   { dst := some 23, op := Op.call { callee := Callee.value (Operand.func 58), args := #[Operand.tmp 22], argTypes := #[81] }, type := t2, pos := q2, after := #[{ on := 1, ground := Ground.data }], guard := none },
   { dst := some 24, op := Op.fieldAddr 83 (Operand.tmp 7) 1, type := t3, pos := q3, after := #[], guard := none },
   { dst := some 25, op := Op.load 81 (Operand.tmp 24), type := t4, pos := q4, after := #[{ on := 3, ground := Ground.data }], guard := none },
   { dst := some 26, op := Op.call { callee := Callee.value (Operand.func 58), args := #[Operand.tmp 25], argTypes := #[81] }, type := t5, pos := q5, after := #[{ on := 4, ground := Ground.data }, { on := 2, ground := Ground.chain }], guard := none },
   { dst := some 27, op := Op.load 62 (Operand.tmp 3), type := t6, pos := q6, after := #[], guard := none },
   { dst := some 28, op := Op.call { callee := Callee.value (Operand.func 57), args := #[Operand.tmp 23, Operand.tmp 26, Operand.tmp 27], argTypes := #[62, 62, 62] }, type := t7, pos := q7, after := #[{ on := 2, ground := Ground.data }, { on := 5, ground := Ground.data }, { on := 6, ground := Ground.data }, { on := 5, ground := Ground.chain }], guard := none }] true).wp Tryz.prog Q a0 w0 := by
 have hS : distS [some 21, some 22, some 23, some 24, some 25, some 26, some 27, some 28] = true := rfl
 refine wp_region_q (by kernel_rfl) w0.heap.size [some 21, some 22, some 23, some 24, some 25, some 26, some 27, some 28] (VregCuts a b c d x y z Bs rs1 rs2 rs3 ro1 ro2 ro3 rn1 rc1 rn2 rc2 rn3 rc3 w0.heap.size) rfl ?_ ?_
 · intro Q lq aq W iq oq hJ hl ho hall
   have hJ2 := hJ
   obtain ⟨z1, z2, z3, z4, z5, z6, z7⟩ := hJ
   have g3 : aq.tmps.getD 3 undef = .pointer (some ⟨Bp, 0, none⟩) := by rw [Array.getD_eq_getD_getElem?, z4 3 (by decide), h3]; rfl
   have g7 : aq.tmps.getD 7 undef = .pointer (some ⟨Bs, 0, none⟩) := by rw [Array.getD_eq_getD_getElem?, z4 7 (by decide), h7]; rfl
   have c0 : W.cell? ⟨Bs, 0, none⟩ = some (.int .i64 a) := (z5.cell l0).trans k0
   have c1 : W.cell? ⟨Bs, 1, none⟩ = some (.int .i64 b) := (z5.cell l1).trans k1
   have c2 : W.cell? ⟨Bs, 2, none⟩ = some (.int .i64 c) := (z5.cell l2).trans k2
   have c3 : W.cell? ⟨Bs, 3, none⟩ = some (.int .i64 d) := (z5.cell l3).trans k3
   have c4 : W.cell? ⟨Bp, 0, none⟩ = some (.bool rs1) := (z5.cell l4).trans k4
   have c5 : W.cell? ⟨Bp, 1, none⟩ = some (.slice ro1 rn1 rc1) := (z5.cell l5).trans k5
   have c6 : W.cell? ⟨Bp, 2, none⟩ = some (.bool rs2) := (z5.cell l6).trans k6
   have c7 : W.cell? ⟨Bp, 3, none⟩ = some (.slice ro2 rn2 rc2) := (z5.cell l7).trans k7
   have c8 : W.cell? ⟨Bp, 4, none⟩ = some (.bool rs3) := (z5.cell l8).trans k8
   have c9 : W.cell? ⟨Bp, 5, none⟩ = some (.slice ro3 rn3 rc3) := (z5.cell l9).trans k9
   match iq, ho with
   | 0, ho =>
     cases ho
     refine wpOp_of rfl rfl ?_
     have hK := fun (v : Value) (W2 : World) hW hT hv => hJ2.put hS 0 21 rfl (by omega) (W' := W2) hW hT v hv
     clear ho hall hl hQ
     generalize InvQ w0.heap.size [some 21, some 22, some 23, some 24, some 25, some 26, some 27, some 28] (VregCuts a b c d x y z Bs rs1 rs2 rs3 ro1 ro2 ro3 rn1 rc1 rn2 rc2 rn3 rc3 w0.heap.size) w0 a0 (lq.setIfInBounds 0 true) = K at hK ⊢
     clear hJ2 hS z1 z2 z3 z4 z6 z7
     go_simp
     exact hK _ _ z5 (fun _ _ h => h) rfl
   | 1, ho =>
     cases ho
     refine wpOp_of rfl rfl ?_
     have f0 : (aq.tmps.getD 21 undef) = .pointer (some ⟨Bs, 0, none⟩) := z6 0 21 (hall { on := 0, ground := Ground.data } (by simp) rfl) rfl
     have hK := fun (v : Value) (W2 : World) hW hT hv => hJ2.put hS 1 22 rfl (by omega) (W' := W2) hW hT v hv
     clear ho hall hl hQ
     generalize InvQ w0.heap.size [some 21, some 22, some 23, some 24, some 25, some 26, some 27, some 28] (VregCuts a b c d x y z Bs rs1 rs2 rs3 ro1 ro2 ro3 rn1 rc1 rn2 rc2 rn3 rc3 w0.heap.size) w0 a0 (lq.setIfInBounds 1 true) = K at hK ⊢
     clear hJ2 hS z1 z2 z3 z4 z6 z7
     go_simp
     exact hK _ _ z5 (fun _ _ h => h) rfl
   | 2, ho =>
     cases ho
     refine wpOp_of rfl rfl ?_
     have f1 : (aq.tmps.getD 22 undef) = Sp a b := z6 1 22 (hall { on := 1, ground := Ground.data } (by simp) rfl) rfl
     have hK := fun (v : Value) (W2 : World) hW hT hv => hJ2.put hS 2 23 rfl (by omega) (W' := W2) hW hT v hv
     clear ho hall hl hQ
     generalize InvQ w0.heap.size [some 21, some 22, some 23, some 24, some 25, some 26, some 27, some 28] (VregCuts a b c d x y z Bs rs1 rs2 rs3 ro1 ro2 ro3 rn1 rc1 rn2 rc2 rn3 rc3 w0.heap.size) w0 a0 (lq.setIfInBounds 2 true) = K at hK ⊢
     clear hJ2 hS z1 z2 z3 z4 z6 z7
     go_simp
     refine (l3Spot_det a b ia ib W).mono ?_
     rintro e v1 ⟨s1, o1, n1, m1, e1, s2, o2, n2, m2, e2, s3, o3, n3, m3, e3, rfl, N1, N2, N3, hBv⟩
     exact hK _ _ (z5.trans (hBv.mono z5.size)) (fun j v h => h.mono hBv) ⟨_, _, _, _, _, _, _, _, _, _, _, _, _, _, _, rfl, N1, N2, N3⟩
   | 3, ho =>
     cases ho
     refine wpOp_of rfl rfl ?_
     have hK := fun (v : Value) (W2 : World) hW hT hv => hJ2.put hS 3 24 rfl (by omega) (W' := W2) hW hT v hv
     clear ho hall hl hQ
     generalize InvQ w0.heap.size [some 21, some 22, some 23, some 24, some 25, some 26, some 27, some 28] (VregCuts a b c d x y z Bs rs1 rs2 rs3 ro1 ro2 ro3 rn1 rc1 rn2 rc2 rn3 rc3 w0.heap.size) w0 a0 (lq.setIfInBounds 3 true) = K at hK ⊢
     clear hJ2 hS z1 z2 z3 z4 z6 z7
     go_simp
     exact hK _ _ z5 (fun _ _ h => h) rfl
   | 4, ho =>
     cases ho
     refine wpOp_of rfl rfl ?_
     have f3 : (aq.tmps.getD 24 undef) = .pointer (some ⟨Bs, 2, none⟩) := z6 3 24 (hall { on := 3, ground := Ground.data } (by simp) rfl) rfl
     have hK := fun (v : Value) (W2 : World) hW hT hv => hJ2.put hS 4 25 rfl (by omega) (W' := W2) hW hT v hv
     clear ho hall hl hQ
     generalize InvQ w0.heap.size [some 21, some 22, some 23, some 24, some 25, some 26, some 27, some 28] (VregCuts a b c d x y z Bs rs1 rs2 rs3 ro1 ro2 ro3 rn1 rc1 rn2 rc2 rn3 rc3 w0.heap.size) w0 a0 (lq.setIfInBounds 4 true) = K at hK ⊢
     clear hJ2 hS z1 z2 z3 z4 z6 z7
     go_simp
     exact hK _ _ z5 (fun _ _ h => h) rfl
   | 5, ho =>
     cases ho
     refine wpOp_of rfl rfl ?_
     have f4 : (aq.tmps.getD 25 undef) = Sp c d := z6 4 25 (hall { on := 4, ground := Ground.data } (by simp) rfl) rfl
     have hK := fun (v : Value) (W2 : World) hW hT hv => hJ2.put hS 5 26 rfl (by omega) (W' := W2) hW hT v hv
     clear ho hall hl hQ
     generalize InvQ w0.heap.size [some 21, some 22, some 23, some 24, some 25, some 26, some 27, some 28] (VregCuts a b c d x y z Bs rs1 rs2 rs3 ro1 ro2 ro3 rn1 rc1 rn2 rc2 rn3 rc3 w0.heap.size) w0 a0 (lq.setIfInBounds 5 true) = K at hK ⊢
     clear hJ2 hS z1 z2 z3 z4 z6 z7
     go_simp
     refine (l3Spot_det c d ic jd W).mono ?_
     rintro e v1 ⟨s1, o1, n1, m1, e1, s2, o2, n2, m2, e2, s3, o3, n3, m3, e3, rfl, N1, N2, N3, hBv⟩
     exact hK _ _ (z5.trans (hBv.mono z5.size)) (fun j v h => h.mono hBv) ⟨_, _, _, _, _, _, _, _, _, _, _, _, _, _, _, rfl, N1, N2, N3⟩
   | 6, ho =>
     cases ho
     refine wpOp_of rfl rfl ?_
     have hK := fun (v : Value) (W2 : World) hW hT hv => hJ2.put hS 6 27 rfl (by omega) (W' := W2) hW hT v hv
     clear ho hall hl hQ
     generalize InvQ w0.heap.size [some 21, some 22, some 23, some 24, some 25, some 26, some 27, some 28] (VregCuts a b c d x y z Bs rs1 rs2 rs3 ro1 ro2 ro3 rn1 rc1 rn2 rc2 rn3 rc3 w0.heap.size) w0 a0 (lq.setIfInBounds 6 true) = K at hK ⊢
     clear hJ2 hS z1 z2 z3 z4 z6 z7
     go_simp
     exact hK _ _ z5 (fun _ _ h => h) rfl
   | 7, ho =>
     cases ho
     refine wpOp_of rfl rfl ?_
     have f2 : L3W a b 1 (aq.tmps.getD 23 undef) W := z6 2 23 (hall { on := 2, ground := Ground.data } (by simp) rfl) rfl
     obtain ⟨ps1, po1, pn1, pc1, pd1, ps2, po2, pn2, pc2, pd2, ps3, po3, pn3, pc3, pd3, pe, P1, P2, P3⟩ := f2
     have f5 : L3W c d 1 (aq.tmps.getD 26 undef) W := z6 5 26 (hall { on := 5, ground := Ground.data } (by simp) rfl) rfl
     obtain ⟨qs1, qo1, qn1, qc1, qd1, qs2, qo2, qn2, qc2, qd2, qs3, qo3, qn3, qc3, qd3, qe, Q1, Q2, Q3⟩ := f5
     have f6 : (aq.tmps.getD 27 undef) = .agg #[.bool rs1, .slice ro1 rn1 rc1, .bool rs2, .slice ro2 rn2 rc2, .bool rs3, .slice ro3 rn3 rc3] := z6 6 27 (hall { on := 6, ground := Ground.data } (by simp) rfl) rfl
     have hK := fun (v : Value) (W2 : World) hW hT hv => hJ2.put hS 7 28 rfl (by omega) (W' := W2) hW hT v hv
     clear ho hall hl hQ
     generalize InvQ w0.heap.size [some 21, some 22, some 23, some 24, some 25, some 26, some 27, some 28] (VregCuts a b c d x y z Bs rs1 rs2 rs3 ro1 ro2 ro3 rn1 rc1 rn2 rc2 rn3 rc3 w0.heap.size) w0 a0 (lq.setIfInBounds 7 true) = K at hK ⊢
     clear hJ2 hS z1 z2 z3 z4 z6 z7
     go_simp
     refine (l5Cuts_any ps1 ps2 ps3 po1 po2 po3 pn1 pc1 pn2 pc2 pn3 pc3 qs1 qs2 qs3 qo1 qo2 qo3 qn1 qc1 qn2 qc2 qn3 qc3 rs1 rs2 rs3 ro1 ro2 ro3 rn1 rc1 rn2 rc2 rn3 rc3 pd1 pd2 pd3 qd1 qd2 qd3 rd1 rd2 rd3 a b 1 c d 1 x y z 8 (by omega) W P1 P2 P3 Q1 Q2 Q3 (Nr1.below z5) (Nr2.below z5) (Nr3.below z5)).mono ?_
     rintro e v1 ⟨rfl, hBv⟩
     exact hK _ _ (z5.trans (hBv.mono z5.size)) (fun j v h => h.mono hBv) rfl
   | iq + 8, ho => simp at ho
 · intro lq aq W hJ hr
   obtain ⟨z1, z2, z3, z4, z5, z6, z7⟩ := hJ
   have hl := listed_of hr [0, 1, 2, 3, 4, 5, 6, 7] [] (by simp) (by kernel_rfl) (by rw [z1]; decide)
   exact hQ aq W z2 z3 (fun e he => z4 e (by simpa using he)) (z6 7 28 (hl 7 (by simp)) rfl) z5
set_option maxRecDepth 100000 in
set_option maxHeartbeats 8000000 in
theorem l5In_any (ao : Option Addr) (n cap : Nat) (p : Ps) (rs1 rs2 rs3 : Bool) (ro1 ro2 ro3 : Option Addr) (rn1 rc1 rn2 rc2 rn3 rc3 : Nat) (rd1 rd2 rd3 : List Int) (x y z : Int) (hp : RgOk n p) (w : World) (hS : SpIn w ao n p) (Nr1 : IsNum w rs1 ro1 rn1 rc1 rd1 x 8) (Nr2 : IsNum w rs2 ro2 rn2 rc2 rd2 y 8) (Nr3 : IsNum w rs3 ro3 rn3 rc3 rd3 z 8) : Calls Tryz.prog 28 #[.agg #[.slice ao n cap], .agg #[.bool rs1, .slice ro1 rn1 rc1, .bool rs2, .slice ro2 rn2 rc2, .bool rs3, .slice ro3 rn3 rc3]] w (VP (.int .i64 (sdR n p x y z)) w) := by
 have A0 := (Blk.new w [.slice ao n cap] 34 rfl).alloc (.cells #[.bool rs1, .slice ro1 rn1 rc1, .bool rs2, .slice ro2 rn2 rc2, .bool rs3, .slice ro3 rn3 rc3] 62)
 have A1 := Blk.new (w.alloc (.cells #[.slice ao n cap] 34)) [.bool rs1, .slice ro1 rn1 rc1, .bool rs2, .slice ro2 rn2 rc2, .bool rs3, .slice ro3 rn3 rc3] 62 (g := w.heap.size + 1) (by simp)
 have HB0 : Below w.heap.size w ((w.alloc (.cells #[.slice ao n cap] 34)).alloc (.cells #[.bool rs1, .slice ro1 rn1 rc1, .bool rs2, .slice ro2 rn2 rc2, .bool rs3, .slice ro3 rn3 rc3] 62)) := ((Below.refl _ w).alloc (Nat.le_refl _) _).alloc (by simp) _
 have HP : Hid (RgOk n p) := hp
 have h12 := hp.h12
 have hnI : (n : Int) ≤ 12 := by omega
 have HS : Hid (SpIn ((w.alloc (.cells #[.slice ao n cap] 34)).alloc (.cells #[.bool rs1, .slice ro1 rn1 rc1, .bool rs2, .slice ro2 rn2 rc2, .bool rs3, .slice ro3 rn3 rc3] 62)) ao n p) := hS.step HB0
 replace Nr1 := Nr1.below HB0; replace Nr2 := Nr2.below HB0; replace Nr3 := Nr3.below HB0
 clear hS hp
 go_enter Tryz.func28, Tryz.ntmps28
 go_wp2_with fail
 generalize ((w.alloc (.cells #[.slice ao n cap] 34)).alloc (.cells #[.bool rs1, .slice ro1 rn1 rc1, .bool rs2, .slice ro2 rn2 rc2, .bool rs3, .slice ro3 rn3 rc3] 62)) = W1 at *
 go_loopw [5, 6] (fun o i wr => ∃ c : Nat, c ≤ n ∧ i = .int .i64 c ∧ o = .bool (ctR n p x y z c) ∧ onR n p x y z c = false ∧ Below W1.heap.size W1 wr) (fun _ i _ => n - (intOf i).toNat)
 case atStart => exact ⟨0, by omega, rfl, rfl, rfl, Below.refl _ _⟩
 case round =>
   obtain ⟨c, hc, rfl, rfl, hon, HB⟩ := hrel
   have HON : Hid (onR n p x y z c = false) := hon
   clear hon
   have b0 := (A0.step HB).c 0 rfl
   by_cases hcn : c < n
   · have hcI : (c : Int) < n := by omega
     have HSr := HS.out.step HB
     obtain ⟨i1, i2, i3, i4⟩ := in1_seg (side_ok HP.out.ok HP.out.one HP.out.h3 hcn)
     have LS := fun w h => l5Side_any ao n cap p c hcn (by omega) w h
     go_wp2_with fail
     refine (LS _ HSr).mono ?_
     rintro e w1 ⟨rfl, hB⟩
     replace HB := HB.trans (hB.mono HB.size)
     clear hB LS HSr b0
     have B2 := Blk.new w1 [.int .i64 (sdA n p c).1, .int .i64 (sdA n p c).2.1, .int .i64 (sdA n p c).2.2.1, .int .i64 (sdA n p c).2.2.2] 83 rfl
     have hB2 := (Below.refl w1.heap.size w1).alloc (Nat.le_refl _) (.cells #[.int .i64 (sdA n p c).1, .int .i64 (sdA n p c).2.1, .int .i64 (sdA n p c).2.2.1, .int .i64 (sdA n p c).2.2.2] 83)
     replace HB := HB.trans (hB2.mono HB.size)
     clear hB2
     go_upto_region 6 with fail
     generalize w1.alloc (.cells #[.int .i64 (sdA n p c).1, .int .i64 (sdA n p c).2.1, .int .i64 (sdA n p c).2.2.1, .int .i64 (sdA n p c).2.2.2] 83) = W2 at *
     generalize w1.heap.size = gs at *
     have D1 := A1.step HB
     have N1 := Nr1.below HB; have N2 := Nr2.below HB; have N3 := Nr3.below HB
     have ON := fun w h1 h2 h3 => l4On_any rs1 rs2 rs3 ro1 ro2 ro3 rn1 rc1 rn2 rc2 rn3 rc3 rd1 rd2 rd3 (sdA n p c).1 (sdA n p c).2.1 (sdA n p c).2.2.1 (sdA n p c).2.2.2 x y z i1 i2 i3 i4 w h1 h2 h3
     have s0 := B2.c 0 rfl; have s1 := B2.c 1 rfl; have s2 := B2.c 2 rfl; have s3 := B2.c 3 rfl
     have d0 := D1.c 0 rfl; have d1 := D1.c 1 rfl; have d2 := D1.c 2 rfl; have d3 := D1.c 3 rfl; have d4 := D1.c 4 rfl; have d5 := D1.c 5 rfl
     have hbt : btwS (sdA n p c).1 (sdA n p c).2.1 1 (sdA n p c).2.2.1 (sdA n p c).2.2.2 1 x y z = onE n p x y z c := rfl
     rw [hbt] at ON
     clear hbt
     go_wp2_with fail
     refine (ON _ N1 N2 N3).mono ?_
     rintro e w3 ⟨rfl, hB⟩
     replace HB := HB.trans (hB.mono HB.size)
     replace B2 := B2.step hB
     replace D1 := D1.step hB
     replace N1 := N1.below hB; replace N2 := N2.below hB; replace N3 := N3.below hB
     clear hB ON s0 s1 s2 s3 d0 d1 d2 d3 d4 d5
     cases he : onE n p x y z c
     · have HN : Hid (onR n p x y z (c + 1) = false) := by show _ = _; rw [onR, HON.out, he]; rfl
       clear he
       go_upto_region 8 with fail
       go_cut [28] (fun zv wx => zv = .bool (ctE n p x y z c) ∧ Below w3.heap.size w3 wx)
       case first =>
           clear HN HON HS Nr1 Nr2 Nr3 HP
           refine regCuts (a := (sdA n p c).1) (b := (sdA n p c).2.1) (c := (sdA n p c).2.2.1) (d := (sdA n p c).2.2.2) (x := x) (y := y) (z := z) (Bs := gs) (Bp := w.heap.size + 1) i1 i2 i3 i4 N1 N2 N3 rfl rfl (B2.c 0 rfl) B2.lt (B2.c 1 rfl) B2.lt (B2.c 2 rfl) B2.lt (B2.c 3 rfl) B2.lt (D1.c 0 rfl) D1.lt (D1.c 1 rfl) D1.lt (D1.c 2 rfl) D1.lt (D1.c 3 rfl) D1.lt (D1.c 4 rfl) D1.lt (D1.c 5 rfl) D1.lt rfl ?_
           rintro ⟨tm, df⟩ Wz hz hdf hoff h28 hBz
           simp only at hz hdf hoff h28
           change tm.getD 28 undef = .bool (ctE n p x y z c) at h28
           subst hdf
           have htm := tmps_fold [21, 22, 23, 24, 25, 26, 27, 28] tm _ hz hoff
           simp only [List.foldl, List.setIfInBounds_toArray, List.set_cons_zero, List.set_cons_succ, h28] at htm
           clear hz hoff
           generalize tm.getD 21 undef = u0, tm.getD 22 undef = u1, tm.getD 23 undef = u2, tm.getD 24 undef = u3, tm.getD 25 undef = u4, tm.getD 26 undef = u5, tm.getD 27 undef = u6 at htm
           clear h28
           subst htm
           go_wp2_with fail
           go_meet
           exact ⟨rfl, hBz⟩
       case rest =>
         obtain ⟨hq, hBc⟩ := hcut
         subst hq
         have HBN := HB.trans (hBc.mono HB.size)
         clear hBc HB B2 D1 N1 N2 N3 i1 i2 i3 i4
         have HX : Hid (ctR n p x y z (c + 1) = (ctR n p x y z c ^^ ctE n p x y z c)) := rfl
         cases hct : ctE n p x y z c
         · have HX2 : Hid (ctR n p x y z (c + 1) = ctR n p x y z c) := by show _ = _; rw [HX.out, hct, Bool.xor_false]
           clear hct HX
           go_wp2
           go_roundw
           case rel => exact ⟨c + 1, by omega, by go_num, by rw [HX2.out], HN.out, HBN⟩
           case measure => simp [intOf]; omega
         · have HX2 : Hid (ctR n p x y z (c + 1) = !(ctR n p x y z c)) := by show _ = _; rw [HX.out, hct, Bool.xor_true]
           clear hct HX
           generalize ctR n p x y z c = zo at *
           go_wp2
           go_roundw
           case rel => exact ⟨c + 1, by omega, by go_num, by rw [HX2.out], HN.out, HBN⟩
           case measure => simp [intOf]; omega
     · have HO : Hid (sdR n p x y z = 0) := by
         show _ = _
         unfold sdR
         rw [onR_mono (show c + 1 ≤ n by omega) (by rw [onR, he, Bool.or_true])]
         rfl
       have HBF := HB0.trans (HB.mono HB0.size)
       clear he
       go_wp2
       go_ret
       exact ⟨by rw [HO.out]; rfl, HBF⟩
   · obtain rfl : c = n := by omega
     have HO : Hid (sdR c p x y z = if ctR c p x y z c = true then 1 else -1) := by
       show _ = _
       unfold sdR
       rw [HON.out]
       rfl
     have HBF := HB0.trans (HB.mono HB0.size)
     clear HB HS A0 A1 Nr1 Nr2 Nr3 HON
     generalize ctR c p x y z c = zo at *
     cases zo
     all_goals go_wp2
     all_goals go_ret
     all_goals exact ⟨by rw [HO.out]; rfl, HBF⟩
def RgIn (w : World) (ao : Option Addr) (n : Nat) (S : Nat → Option Addr × Nat) (L : Nat → Nat) (q : Nat → Ps) : Prop :=
 ∀ i, i < n → ∃ A off, ao = some ⟨A, off, none⟩ ∧ A < w.heap.size ∧ w.cell? ⟨A, off + i, none⟩ = some (.slice (S i).1 (L i) (S i).2) ∧ SpIn w (S i).1 (L i) (q i)
theorem RgIn.step {w w' : World} {ao : Option Addr} {n : Nat} {S : Nat → Option Addr × Nat} {L : Nat → Nat} {q : Nat → Ps} (h : RgIn w ao n S L q) (hB : Below w.heap.size w w') : RgIn w' ao n S L q := fun i hi => by
 obtain ⟨A, off, e, hA, h0, h1⟩ := h i hi
 exact ⟨A, off, e, Nat.lt_of_lt_of_le hA hB.size, (hB.cell (p := ⟨A, off + i, none⟩) hA).trans h0, h1.step hB⟩
theorem Tryz.infoRing : (Tryz.prog.info? 34).map (fun i => (i.zero, i.size, i.bytes)) = some (some (.agg #[.slice none 0 0]), 1, 24) := by kernel_rfl
theorem make_rings (n : Nat) (hn : n ≤ 1048576) (w : World) : (Instr.makeSlice 46 (.int .i64 (n : Int)) (.int .i64 (n : Int))).run Tryz.prog w = .ok (.slice (some ⟨w.heap.size, 0, none⟩) n n) (w.alloc (.cells (madeCells #[.slice none 0 0] n) 34)) := by
 obtain ⟨i, hi, hzz⟩ := Option.map_eq_some_iff.1 Tryz.infoRing
 simp only [Prod.mk.injEq] at hzz
 obtain ⟨hz, hs, hb⟩ := hzz
 have hr := run_make (P := Tryz.prog) w 46 34 i (.agg #[.slice none 0 0]) Tryz.underlying46 hi hz .i64 .i64 n n (by omega) (Int.le_refl _) (by rw [hb]; omega) (by omega)
 simp only [Int.toNat_natCast, hs, Value.cells, Nat.mul_one] at hr
 exact hr
def cpR (S : Nat → Nat) (L : Nat → Nat) (c : Nat) (i : Nat) : Value := if i < c then .slice (some ⟨S i, 0, none⟩) (L i) (L i) else .slice none 0 0
set_option maxRecDepth 100000 in
set_option maxHeartbeats 2000000 in
theorem toRingS_any (ao : Option Addr) (n cap : Nat) (S : Nat → Option Addr × Nat) (L : Nat → Nat) (q : Nat → Ps) (hn : n ≤ 1048576) (hL : ∀ i, i < n → L i ≤ 1048576) (w : World) (hS : RgIn w ao n S L q) : Calls Tryz.prog 18 #[.slice ao n cap] w (fun e w' => ∃ g S', e = .returned (.slice (some ⟨g, 0, none⟩) n n) ∧ RgIn w' (some ⟨g, 0, none⟩) n S' L q ∧ (∀ i, (S' i).2 = L i) ∧ (w.heap.size ≤ g ∧ ∀ i a, i < n → (S' i).1 = some a → w.heap.size ≤ a.block) ∧ Below w.heap.size w w') := by
 have MK := make_rings n hn
 have HS : Hid (RgIn w ao n S L q) := hS
 have HL : Hid (∀ i, i < n → L i ≤ 1048576) := hL
 clear hS hL
 go_enter Tryz.func18, Tryz.ntmps18
 go_wp2_with fail
 have R0 := World.rowIs_made w (.slice none 0 0) n 34
 have B0 : Below w.heap.size w (w.alloc (.cells (madeCells #[.slice none 0 0] n) 34)) := (Below.refl _ _).alloc (Nat.le_refl _) _
 generalize w.alloc (.cells (madeCells #[.slice none 0 0] n) 34) = W1 at *
 have hnI : (n : Int) ≤ 1048576 := by omega
 clear MK
 go_loopw [4] (fun i wr => ∃ (c : Nat) (S' : Nat → Nat), c ≤ n ∧ i = .int .i64 c ∧ wr.rowIs w.heap.size 34 n (cpR S' L c) ∧ (∀ j, j < c → w.heap.size < S' j ∧ wr.rowIs (S' j) 81 (L j * 2) (fun i => .int .i64 (spW (q j) i))) ∧ Below w.heap.size w wr) (fun i _ => n - (intOf i).toNat)
 case atStart => exact ⟨0, fun _ => 0, by omega, rfl, R0.congr (fun i _ => by unfold cpR; simp), fun j hj => by omega, B0⟩
 case round =>
   clear R0 B0
   obtain ⟨c, S', hc, rfl, R, hp, HB⟩ := hrel
   have HP : Hid (∀ j, j < c → w.heap.size < S' j ∧ wr.rowIs (S' j) 81 (L j * 2) (fun i => .int .i64 (spW (q j) i))) := hp
   clear hp
   by_cases hcn : c < n
   · obtain ⟨A, off, rfl, hA, hcell, hrow⟩ := HS.out.step HB c hcn
     have hcI : (c : Int) < n := by omega
     have TL := fun w h => toRing_any (S c).1 (L c) (S c).2 (q c) (HL.out c hcn) w h
     have hlr := R.lt
     go_wp2_with fail
     refine (TL _ hrow).mono ?_
     rintro e w1 ⟨g, rfl, hg, RG, hB⟩
     replace R := rows_step R hB
     have HP2 : Hid (∀ j, j < c → w.heap.size < S' j ∧ w1.rowIs (S' j) 81 (L j * 2) (fun i => .int .i64 (spW (q j) i))) := fun j hj => ⟨(HP.out j hj).1, rows_step (HP.out j hj).2 hB⟩
     replace HB := HB.trans (hB.mono HB.size)
     have o0 := R.cell (i := c) (by omega); have f0 := R.frozen c
     have RN : (w1.setCell ⟨w.heap.size, c, none⟩ (.slice (some ⟨g, 0, none⟩) (L c) (L c))).rowIs w.heap.size 34 n (cpR (fun j => if j = c then g else S' j) L (c + 1)) := (R.set c _).congr (fun i hi => by
       unfold cpR
       by_cases h : i = c
       · subst h; simp
       · rcases Nat.lt_or_ge i c with h' | h'
         · rw [if_neg h, if_pos h', if_pos (by omega)]; dsimp only; rw [if_neg h]
         · rw [if_neg h, if_neg (by omega), if_neg (by omega)])
     have HPN : Hid (∀ j, j < c + 1 → w.heap.size < (if j = c then g else S' j) ∧ (w1.setCell ⟨w.heap.size, c, none⟩ (.slice (some ⟨g, 0, none⟩) (L c) (L c))).rowIs (if j = c then g else S' j) 81 (L j * 2) (fun i => .int .i64 (spW (q j) i))) := fun j hj => by
       by_cases h : j = c
       · subst h
         rw [if_pos rfl]
         exact ⟨by omega, RG.setOther (by show g ≠ w.heap.size; omega) _⟩
       · rw [if_neg h]
         have := HP2.out j (by omega)
         exact ⟨this.1, this.2.setOther (by have h2 := this.1; show S' j ≠ w.heap.size; omega) _⟩
     have HN : Below w.heap.size w (w1.setCell ⟨w.heap.size, c, none⟩ (.slice (some ⟨g, 0, none⟩) (L c) (L c))) := Below.setCell HB (Nat.le_refl _) _
     clear hB hcell hrow hA R HB RG HP HP2 TL hlr hg
     go_wp2
     go_roundw
     case rel => exact ⟨c + 1, _, by omega, by go_num, RN, HPN.out, HN⟩
     case measure => simp [intOf]; omega
   · obtain rfl : c = n := by omega
     have LI : Hid (RgIn wr (some ⟨w.heap.size, 0, none⟩) c (fun i => (some ⟨S' i, 0, none⟩, L i)) L q) := fun i hi => by
       refine ⟨w.heap.size, 0, rfl, R.lt, ?_, spIn_row (HP.out i hi).2⟩
       rw [Nat.zero_add, R.cell hi]
       unfold cpR
       rw [if_pos hi]
     have HPB : Hid (∀ i (a : Addr), i < c → (some (⟨S' i, 0, none⟩ : Addr)) = some a → w.heap.size ≤ a.block) := fun i a hi ha => by
       have := (HP.out i hi).1
       cases ha
       exact Nat.le_of_lt this
     clear R HS HP HL
     go_wp2
     go_ret
     exact ⟨_, _, rfl, LI.out, fun _ => rfl, ⟨Nat.le_refl _, HPB.out⟩, HB⟩
set_option maxRecDepth 100000 in
set_option maxHeartbeats 2000000 in
theorem eqRingS_any (ao bo : Option Addr) (n ca cb : Nat) (S S' : Nat → Option Addr × Nat) (L : Nat → Nat) (q : Nat → Ps) (hn : n ≤ 1048576) (hL : ∀ i, i < n → L i ≤ 1048576) (w : World) (hA : RgIn w ao n S L q) (hC : RgIn w bo n S' L q) : Calls Tryz.prog 20 #[.slice ao n ca, .slice bo n cb] w (BoolP true w) := by
 have HA : Hid (RgIn w ao n S L q) := hA
 have HC : Hid (RgIn w bo n S' L q) := hC
 have HL : Hid (∀ i, i < n → L i ≤ 1048576) := hL
 have hnI : (n : Int) ≤ 1048576 := by omega
 clear hA hC hL
 go_enter Tryz.func20, Tryz.ntmps20
 go_wp2_with fail
 go_loopw [5] (fun i wr => ∃ c : Nat, c ≤ n ∧ i = .int .i64 c ∧ Below w.heap.size w wr) (fun i _ => n - (intOf i).toNat)
 case atStart => exact ⟨0, by omega, rfl, Below.refl _ _⟩
 case round =>
   obtain ⟨c, hc, rfl, HB⟩ := hrel
   by_cases hcn : c < n
   · obtain ⟨A, off, rfl, hA, q0, hra⟩ := HA.out.step HB c hcn
     obtain ⟨B, of2, rfl, hB', r0, hrb⟩ := HC.out.step HB c hcn
     have hcI : (c : Int) < n := by omega
     have EL := fun w h h' => eqRing_any (S c).1 (S' c).1 (L c) (S c).2 (S' c).2 (q c) (HL.out c hcn) w h h'
     have KS : (fun w' => w'.cell? ⟨A, off + c, none⟩ = some (.slice (S c).1 (L c) (S c).2) ∧ w'.cell? ⟨B, of2 + c, none⟩ = some (.slice (S' c).1 (L c) (S' c).2)) wr := ⟨q0, r0⟩
     go_wp2_with fail
     go_region_held3 (fun w' => w'.cell? ⟨A, off + c, none⟩ = some (.slice (S c).1 (L c) (S c).2) ∧ w'.cell? ⟨B, of2 + c, none⟩ = some (.slice (S' c).1 (L c) (S' c).2)) (first | (exact KS) | (exact KS'))
       (first
         | (go_at_call 13; refine (EL _ (by first | exact hra | exact hra.drew) (by first | exact hrb | exact hrb.drew)).mono ?_; rintro e w1 ⟨rfl, hB⟩; have KS' : (fun w' => w'.cell? ⟨A, off + c, none⟩ = some (.slice (S c).1 (L c) (S c).2) ∧ w'.cell? ⟨B, of2 + c, none⟩ = some (.slice (S' c).1 (L c) (S' c).2)) w1 := ⟨(hB.cell (p := ⟨A, _, none⟩) hA).trans q0, (hB.cell (p := ⟨B, _, none⟩) hB').trans r0⟩; (first | (have HB2 := HB.trans (hB.mono HB.size)) | (have HB2 := HB.drew.trans (hB.mono HB.drew.size))); clear hB))
     all_goals clear HB KS q0 r0 hra hrb EL
     all_goals go_wp2
     all_goals go_roundw
     case rel => exact ⟨c + 1, by omega, by go_num, HB2⟩
     case measure => simp [intOf]; omega
   · obtain rfl : c = n := by omega
     clear HA HC HL
     go_wp2
     go_ret
     exact ⟨rfl, HB⟩
def SzR (n : Nat) (L : Nat → Nat) (w : World) (e : Ending) (w' : World) : Prop := ∃ z : Int, e = .returned (.int .i64 z) ∧ -1 ≤ z ∧ z ≤ 1048576 ∧ (0 ≤ z → n ≤ 1048576 ∧ ∀ i, i < n → L i ≤ 1048576) ∧ Below w.heap.size w w'
set_option maxRecDepth 100000 in
set_option maxHeartbeats 2000000 in
theorem szRingS_any (l0 : Int) (h00 : 0 ≤ l0) (h01 : l0 ≤ 1048576) (ao : Option Addr) (n cap : Nat) (S : Nat → Option Addr × Nat) (L : Nat → Nat) (q : Nat → Ps) (hn : n ≤ 9223372036854775807) (hL : ∀ i, i < n → L i ≤ 9223372036854775807) (w : World) (hS : RgIn w ao n S L q) : Calls Tryz.prog 16 #[.slice ao n cap, .int .i64 l0] w (SzR n L w) := by
 have hnI : (n : Int) ≤ 9223372036854775807 := by omega
 by_cases h : (n : Int) ≤ l0
 · have h' : (n : Int) ≤ 1048576 := by omega
   have hw' : IntKind.i64.wrap (l0 - (n : Int)) = l0 - n := by rw [IntKind.wrap_i64]; omega
   have hw0 : 0 ≤ l0 - (n : Int) := by omega
   have HS : Hid (RgIn w ao n S L q) := hS
   have HL : Hid (∀ i, i < n → L i ≤ 9223372036854775807) := hL
   clear hS hL
   go_enter Tryz.func16, Tryz.ntmps16
   go_wp2_with fail
   go_loopw [1, 5] (fun s i wr => ∃ (c : Nat) (l : Int), c ≤ n ∧ i = .int .i64 c ∧ s = .int .i64 l ∧ 0 ≤ l ∧ l ≤ 1048576 ∧ (∀ j, j < c → L j ≤ 1048576) ∧ Below w.heap.size w wr) (fun _ i _ => n - (intOf i).toNat)
   case atStart => exact ⟨0, _, by omega, rfl, rfl, by omega, by omega, fun j hj => by omega, Below.refl _ _⟩
   case round =>
     obtain ⟨c, l, hc, rfl, rfl, l0, l1, hall, HB⟩ := hrel
     have HA : Hid (∀ j, j < c → L j ≤ 1048576) := hall
     clear hall
     by_cases hcn : c < n
     · obtain ⟨A, off, rfl, hA, hcell, -⟩ := HS.out.step HB c hcn
       have hcI : (c : Int) < n := by omega
       have SL := szRing_any (S c).1 (L c) (S c).2 l l0 l1 (HL.out c hcn)
       go_wp2_with fail
       refine (SL _).mono ?_
       rintro e w1 ⟨rfl, hB⟩
       replace HB := HB.trans (hB.mono HB.size)
       clear hB SL hcell hA
       by_cases hl : (L c : Int) ≤ l
       · rw [if_pos hl]
         have hl2 : 0 ≤ l - (L c : Int) := by omega
         go_wp2
         go_roundw
         case rel => exact ⟨c + 1, _, by omega, by go_num, rfl, by omega, by omega, fun j hj => by
           rcases Nat.lt_or_ge j c with h | h
           · exact HA.out j h
           · obtain rfl : j = c := by omega
             omega, HB⟩
         case measure => simp [intOf]; omega
       · rw [if_neg hl]
         go_wp2
         go_ret
         exact ⟨-1, rfl, by omega, by omega, fun h => by omega, HB⟩
     · obtain rfl : c = n := by omega
       clear HS HL
       go_wp2
       go_ret
       exact ⟨l, rfl, by omega, l1, fun _ => ⟨by omega, HA.out⟩, HB⟩
 · have h' : l0 < (n : Int) := by omega
   have hw' : IntKind.i64.wrap (l0 - (n : Int)) = l0 - n := by rw [IntKind.wrap_i64]; omega
   have hw0 : l0 - (n : Int) < 0 := by omega
   clear hS hL
   go_enter Tryz.func16, Tryz.ntmps16
   go_wp2
   go_ret
   exact ⟨-1, rfl, by omega, by omega, fun h => by omega, Below.refl _ _⟩
open Go.RowKit Go.Shelf
attribute [local go_sem] Oper.semAt_some
set_option maxRecDepth 100000 in
set_option maxHeartbeats 8000000 in
theorem meets_any (ao bo : Option Addr) (n cap m cap2 : Nat) (p q : Ps) (hn3 : 3 ≤ n) (hn : n ≤ 12) (hok : ∀ i, i < n → spotOk (p i).1 (p i).2 = true) (hone : OneN n p) (hm3 : 3 ≤ m) (hm : m ≤ 12) (hokq : ∀ i, i < m → spotOk (q i).1 (q i).2 = true) (honeq : OneN m q) (w : World) (hS : SpIn w ao n p) (hSq : SpIn w bo m q) : Calls Tryz.prog 38 #[.agg #[.slice ao n cap], .agg #[.slice bo m cap2]] w (VP (.bool (rmB n p m q)) w) := by
 refine (callsIn_wide (n := 12)).1 ?_
 refine callsIn_of_wp_marks Tryz.func38 rfl trivial ?_ rfl
 simp only [Tryz.ntmps38, List.size_toArray, List.length_cons, List.length_nil, Nat.reduceAdd, Nat.reduceSub, Array.replicate_succ, Array.replicate_zero, List.push_toArray, List.append_toArray, List.nil_append, List.cons_append]
 gi_wp2_with (refine ⟨trivial, ?_⟩; gi_at_call 65; refine (callsIn_wide.2 (sides_any _ _ _ _)).mono ?_; rintro e w' ⟨rfl, rfl⟩)
 have bA := (((Boxed.new w 34 (.slice ao n cap)).alloc (.cells #[.slice bo m cap2] 34)).alloc (.cells #[.bool false] 4)).alloc (.cells #[.slice ao n cap] 34)
 have bQ := ((Boxed.new (w.alloc (.cells #[.slice ao n cap] 34)) 34 (.slice bo m cap2)).alloc (.cells #[.bool false] 4)).alloc (.cells #[.slice ao n cap] 34)
 have bR := (Boxed.new ((w.alloc (.cells #[.slice ao n cap] 34)).alloc (.cells #[.slice bo m cap2] 34)) 4 (.bool false)).alloc (.cells #[.slice ao n cap] 34)
 have bN := Boxed.new (((w.alloc (.cells #[.slice ao n cap] 34)).alloc (.cells #[.slice bo m cap2] 34)).alloc (.cells #[.bool false] 4)) 34 (.slice ao n cap)
 simp only [World.size_alloc] at bQ bR bN
 have hB0 : Below w.heap.size w ((((w.alloc (.cells #[.slice ao n cap] 34)).alloc (.cells #[.slice bo m cap2] 34)).alloc (.cells #[.bool false] 4)).alloc (.cells #[.slice ao n cap] 34)) := ((((Below.refl _ w).alloc (Nat.le_refl _) _).alloc (by simp) _).alloc (by simp; omega) _).alloc (by simp; omega) _
 have hsz : ((((w.alloc (.cells #[.slice ao n cap] 34)).alloc (.cells #[.slice bo m cap2] 34)).alloc (.cells #[.bool false] 4)).alloc (.cells #[.slice ao n cap] 34)).heap.size = w.heap.size + 4 := by simp
 obtain ⟨W0, hW0⟩ : ∃ W0, ((((w.alloc (.cells #[.slice ao n cap] 34)).alloc (.cells #[.slice bo m cap2] 34)).alloc (.cells #[.bool false] 4)).alloc (.cells #[.slice ao n cap] 34)) = W0 := ⟨_, rfl⟩
 rw [hW0] at bA bQ bR bN hB0 hsz ⊢
 clear hW0
 have hS0 : SpB w.heap.size W0 ao n p := (hS.low).keep (fun k hk => hB0.block k hk)
 have hS1 : SpB w.heap.size W0 bo m q := (hSq.low).keep (fun k hk => hB0.block k hk)
 refine wpIn_rangeFunc_ownH rfl (by omega) (gf := 96) (lb := #[.pointer (some ⟨w.heap.size + 1 + 1 + 1, 0, none⟩)]) rfl trivial (enters_of Tryz.func96 (by kernel_rfl) rfl)
   (sides_stops (12 - 1) w.heap.size (w.heap.size + 1 + 1 + 1) ao n cap p hn3 hn hok hone W0 (by omega) (by omega) bN.cell hS0) (fun h k => h.trans k) (KpB.put (by omega) (by omega)) (Below.refl _ _) (fun _ => rfl)
   (fun pre W => (∀ i ∈ pre, ∀ k, k < m → kdX n p m q i.1 k = 0) ∧ Below W0.heap.size W0 W)
   (fun c pre W => ((c = .ret ∧ ∃ i ∈ pre, ∃ k, k < m ∧ kdX n p m q i.1 k ≠ 0) ∧ Boxed W (w.heap.size + 1 + 1) 4 (.bool true)) ∧ Below w.heap.size w W)
   (OwnFrom.and (ownFrom_pure _ _) (ownFrom_below (Nat.le_refl _) (Nat.le_refl _)))
   (fun c => OwnFrom.and (OwnFrom.and (ownFrom_pure _ _) (Own.from (boxed_own _ _ _) _)) (ownFrom_below (Nat.le_refl _) (by omega)))
   ⟨by simp, Below.refl _ _⟩
   (fun x a' W => ∃ Bs, BoxV W Bs 83 [.int .i64 (sdA n p x.1).1, .int .i64 (sdA n p x.1).2.1, .int .i64 (sdA n p x.1).2.2.1, .int .i64 (sdA n p x.1).2.2.2] ∧ a' = { tmps := #[.agg #[.slice ao n cap], .agg #[.slice bo m cap2], .pointer (some ⟨w.heap.size, 0, none⟩), .pointer (some ⟨w.heap.size + 1, 0, none⟩), .pointer (some ⟨w.heap.size + 1 + 1, 0, none⟩), undef, .pointer (some ⟨Bs, 0, none⟩), undef, undef, undef, undef, undef, .agg #[.slice ao n cap], .func (.func 96) #[] #[.pointer (some ⟨w.heap.size + 1 + 1 + 1, 0, none⟩)], .int .i64 (x.1 : Int), Sg (sdA n p x.1).1 (sdA n p x.1).2.1 (sdA n p x.1).2.2.1 (sdA n p x.1).2.2.2, undef, undef, undef, undef, undef, undef, undef, undef, undef, undef, undef, undef, undef], defers := [] })
   (fun x a' _ X Y row hs hg hr => by obtain ⟨Bs, e4, e5⟩ := hs; exact ⟨Bs, boxV_own Bs 83 (fun (_ : Unit) => [.int .i64 (sdA n p x.1).1, .int .i64 (sdA n p x.1).2.1, .int .i64 (sdA n p x.1).2.2.1, .int .i64 (sdA n p x.1).2.2.2]) () X Y row e4 hg (fun r e => (hr r e).2), e5⟩)
   ?assign ?body ?done ?stop
 case assign =>
   rintro l pre x W K ⟨hp, hB1⟩ hK
   unfold enS
   gi_wp2
   have hB2 : Below W.heap.size W (W.alloc (.cells #[.int .i64 (sdA n p x.1).1, .int .i64 (sdA n p x.1).2.1, .int .i64 (sdA n p x.1).2.2.1, .int .i64 (sdA n p x.1).2.2.2] 83)) := (Below.refl _ W).alloc (Nat.le_refl _) _
   have hsW := hB1.size
   have b2 := BoxV.new W 83 [.int .i64 (sdA n p x.1).1, .int .i64 (sdA n p x.1).2.1, .int .i64 (sdA n p x.1).2.2.1, .int .i64 (sdA n p x.1).2.2.2]
   exact hK _ _ (below_keeps hB2) (KpB.of hB2 (by omega) (by omega)) ⟨hp, hB1.trans (hB2.mono hB1.size)⟩ ⟨_, b2, rfl⟩
 case body =>
   rintro l pre x a' W hl ⟨r, hr⟩ ⟨hp, hB1⟩ ⟨Bs, bS, rfl⟩ hlt
   have bQ1 := boxed_step bQ hB1
   have cQ := bQ1.cell
   have h1' : 1 ≤ 12 - 1 - 1 := by omega
   gi_wp2_with (refine ⟨trivial, ?_⟩; gi_at_call 65; refine (CallsIn.inRound l (callsIn_wide.2 (sides_any _ _ _ _))).mono ?_; rintro e w' ⟨rfl, rfl⟩)
   have hsW := hB1.size
   have bN1 := Boxed.new W 34 (.slice bo m cap2)
   have hr' : (W.alloc (.cells #[.slice bo m cap2] 34)).heap[l]? = some (.loop r) := (Below.heap_alloc W _ l (Array.getElem?_eq_some_iff.1 hr).1).trans hr
   have hBR : Below W.heap.size W (W.alloc (.cells #[.slice bo m cap2] 34)) := (Below.refl _ W).alloc (Nat.le_refl _) _
   have hSW : SpB w.heap.size (W.alloc (.cells #[.slice bo m cap2] 34)) bo m q := hS1.keep (fun k hk => (hBR.block k (by omega)).trans (hB1.block k (by omega)))
   have hbR := boxed_step bR hB1
   have hxn := x.2
   have hs1 : (W.alloc (.cells #[.slice bo m cap2] 34)).heap.size = W.heap.size + 1 := by simp
   obtain ⟨W1, hW1⟩ : ∃ W1, W.alloc (.cells #[.slice bo m cap2] 34) = W1 := ⟨_, rfl⟩
   rw [hW1] at bN1 hr' hBR hSW hs1 ⊢
   clear hW1
   refine wpIn_rangeFunc_ownN (l₀ := l) (r₀ := r) rfl hr' h1' (gf := 96) (lb := #[.pointer (some ⟨W.heap.size, 0, none⟩)]) rfl trivial (enters_of Tryz.func96 (by kernel_rfl) rfl)
     ((sides_stops (12 - 1 - 1 - 1) w.heap.size W.heap.size bo m cap2 q hm3 hm hokq honeq W1 (by omega) (by omega) bN1.cell hSW).inRound l) (fun h k => h.trans k) (KpB.put (by omega) (by omega)) (Below.refl _ _) (fun _ => rfl)
     (fun pre' W' => (∀ y ∈ pre', kdX n p m q x.1 y.1 = 0) ∧ Below W1.heap.size W1 W')
     (fun c pre' W' => ((c = .ret ∧ ∃ y ∈ pre', kdX n p m q x.1 y.1 ≠ 0) ∧ Boxed W' (w.heap.size + 1 + 1) 4 (.bool true)) ∧ Below w.heap.size W W' ∧ KeepsFrom W0.heap.size W W')
     (OwnFrom.and (ownFrom_pure _ _) (ownFrom_below (Nat.le_refl _) (Nat.le_refl _)))
     (fun c => OwnFrom.and (OwnFrom.and (ownFrom_pure _ _) (Own.from (boxed_own _ _ _) _)) (OwnFrom.and (ownFrom_below (by omega) (by omega)) (ownFrom_keepsFrom (by omega))))
     ⟨by simp, Below.refl _ _⟩
     (fun y a'' W' => ∃ Bt, BoxV W' Bt 83 [.int .i64 (sdA m q y.1).1, .int .i64 (sdA m q y.1).2.1, .int .i64 (sdA m q y.1).2.2.1, .int .i64 (sdA m q y.1).2.2.2] ∧ a'' = { tmps := #[.agg #[.slice ao n cap], .agg #[.slice bo m cap2], .pointer (some ⟨w.heap.size, 0, none⟩), .pointer (some ⟨w.heap.size + 1, 0, none⟩), .pointer (some ⟨w.heap.size + 1 + 1, 0, none⟩), undef, .pointer (some ⟨Bs, 0, none⟩), undef, .pointer (some ⟨Bt, 0, none⟩), undef, undef, undef, .agg #[.slice ao n cap], .func (.func 96) #[] #[.pointer (some ⟨w.heap.size + 1 + 1 + 1, 0, none⟩)], .int .i64 (x.1 : Int), Sg (sdA n p x.1).1 (sdA n p x.1).2.1 (sdA n p x.1).2.2.1 (sdA n p x.1).2.2.2, .agg #[.slice bo m cap2], .func (.func 96) #[] #[.pointer (some ⟨W.heap.size, 0, none⟩)], .int .i64 (y.1 : Int), Sg (sdA m q y.1).1 (sdA m q y.1).2.1 (sdA m q y.1).2.2.1 (sdA m q y.1).2.2.2, undef, undef, undef, undef, undef, undef, undef, undef, undef], defers := [] })
     (fun y a'' _ X Y row hs hg hrw => by obtain ⟨Bt, e4, e5⟩ := hs; exact ⟨Bt, boxV_own Bt 83 (fun (_ : Unit) => [.int .i64 (sdA m q y.1).1, .int .i64 (sdA m q y.1).2.1, .int .i64 (sdA m q y.1).2.2.1, .int .i64 (sdA m q y.1).2.2.2]) () X Y row e4 hg (fun r e => (hrw r e).2), e5⟩)
     ?assign2 ?body2 ?done2 ?stop2
   case assign2 =>
     rintro l2 pre' y W' K ⟨hq, hBW⟩ hK
     unfold enS
     gi_wp2
     have hB2 : Below W'.heap.size W' (W'.alloc (.cells #[.int .i64 (sdA m q y.1).1, .int .i64 (sdA m q y.1).2.1, .int .i64 (sdA m q y.1).2.2.1, .int .i64 (sdA m q y.1).2.2.2] 83)) := (Below.refl _ W').alloc (Nat.le_refl _) _
     have hsW2 := hBW.size
     have b2 := BoxV.new W' 83 [.int .i64 (sdA m q y.1).1, .int .i64 (sdA m q y.1).2.1, .int .i64 (sdA m q y.1).2.2.1, .int .i64 (sdA m q y.1).2.2.2]
     exact hK _ _ (below_keeps hB2) (KpB.of hB2 (by omega) (by omega)) ⟨hq, hBW.trans (hB2.mono hBW.size)⟩ ⟨_, b2, rfl⟩
   case body2 =>
     rintro l2 pre' y a'' W' _ _ ⟨hq, hBW⟩ ⟨Bt, bT, rfl⟩ _
     have hBX : Below W.heap.size W W' := hBR.trans (hBW.mono hBR.size)
     have bS2 := (bS.step hBX).blk
     have bT2 := bT.blk
     have bR2 := boxed_step hbR hBX
     have s0' := bS2.c 0 rfl; have s1' := bS2.c 1 rfl; have s2' := bS2.c 2 rfl; have s3' := bS2.c 3 rfl
     have t0' := bT2.c 0 rfl; have t1' := bT2.c 1 rfl; have t2' := bT2.c 2 rfl; have t3' := bT2.c 3 rfl
     have hsX := hBW.size
     obtain ⟨i1, i2, i3, i4⟩ := in1_seg (side_ok hok hone hn3 x.2)
     obtain ⟨j1, j2, j3, j4⟩ := in1_seg (side_ok hokq honeq hm3 y.2)
     obtain ⟨r0, r1, r2, r3, r4, r5, r6, r7, r8, r9, r10, r11, s0, s1, s2, s3, s4, s5, s6, s7, s8, s9, s10, s11, hW12⟩ := meetW_12 (sdA n p x.1).1 (sdA n p x.1).2.1 (sdA n p x.1).2.2.1 (sdA n p x.1).2.2.2 (sdA m q y.1).1 (sdA m q y.1).2.1 (sdA m q y.1).2.2.1 (sdA m q y.1).2.2.2
     have MT := meet_det (sdA n p x.1).1 (sdA n p x.1).2.1 (sdA n p x.1).2.2.1 (sdA n p x.1).2.2.2 (sdA m q y.1).1 (sdA m q y.1).2.1 (sdA m q y.1).2.2.1 (sdA m q y.1).2.2.2 i1 i2 i3 i4 j1 j2 j3 j4
     rw [hW12] at MT
     have hkd : kndZ (sdA n p x.1).1 (sdA n p x.1).2.1 (sdA n p x.1).2.2.1 (sdA n p x.1).2.2.2 (sdA m q y.1).1 (sdA m q y.1).2.1 (sdA m q y.1).2.2.1 (sdA m q y.1).2.2.2 = kdX n p m q x.1 y.1 := rfl
     rw [hkd] at MT
     clear i1 i2 i3 i4 j1 j2 j3 j4 hW12 hkd
     generalize hzk : kdX n p m q x.1 y.1 = zk at *
     by_cases hz0 : zk = 0
     · have e1 : (zk != 0) = false := by simp [hz0]
       gi_wp2_with (refine ⟨trivial, ?_⟩; gi_at_call 72; refine (CallsIn.inRound l2 (CallsIn.inRound l (callsIn_wide.2 (MT _)))).mono ?_; rintro e v1 ⟨rfl, hBm⟩)
       have hBN : Below W'.heap.size W' ((v1.alloc (.cells #[.int .u64 r0, .int .u64 r1, .int .u64 r2, .int .u64 r3, .int .u64 r4, .int .u64 r5, .int .u64 r6, .int .u64 r7, .int .u64 r8, .int .u64 r9, .int .u64 r10, .int .u64 r11] 38)).alloc (.cells #[.int .u64 s0, .int .u64 s1, .int .u64 s2, .int .u64 s3, .int .u64 s4, .int .u64 s5, .int .u64 s6, .int .u64 s7, .int .u64 s8, .int .u64 s9, .int .u64 s10, .int .u64 s11] 38)) := (hBm.alloc hBm.size _).alloc (Nat.le_trans hBm.size (by simp)) _
       refine ⟨below_keeps hBN, KpB.of hBN (by omega) (by omega), fun z hz => ?_, hBW.trans (hBN.mono hBW.size)⟩
       rcases List.mem_append.1 hz with h | h
       · exact hq z h
       · simp at h
         subst h
         rw [hzk, hz0]
     · have e1 : (zk != 0) = true := by simp [hz0]
       gi_wp2_with (refine ⟨trivial, ?_⟩; gi_at_call 72; refine (CallsIn.inRound l2 (CallsIn.inRound l (callsIn_wide.2 (MT _)))).mono ?_; rintro e v1 ⟨rfl, hBm⟩; have hBN : Below W'.heap.size W' ((v1.alloc (.cells #[.int .u64 r0, .int .u64 r1, .int .u64 r2, .int .u64 r3, .int .u64 r4, .int .u64 r5, .int .u64 r6, .int .u64 r7, .int .u64 r8, .int .u64 r9, .int .u64 r10, .int .u64 r11] 38)).alloc (.cells #[.int .u64 s0, .int .u64 s1, .int .u64 s2, .int .u64 s3, .int .u64 s4, .int .u64 s5, .int .u64 s6, .int .u64 s7, .int .u64 s8, .int .u64 s9, .int .u64 s10, .int .u64 s11] 38)) := (hBm.alloc hBm.size _).alloc (Nat.le_trans hBm.size (by simp)) _; have bR3 := boxed_step bR2 hBN; have cR3 := bR3.cell; have fR3 := bR3.frozen)
       have hXN := hBX.trans (hBN.mono hBX.size)
       exact ⟨(below_keeps hBN).trans ((KeepsOthers.setCell _ _ _).from _), ⟨⟨⟨rfl, y, List.mem_append.2 (.inr (by simp)), by rw [hzk]; exact hz0⟩, bR3.set _⟩, (hXN.mono (show w.heap.size ≤ W.heap.size by omega)).setCell (p := ⟨w.heap.size + 1 + 1, 0, none⟩) (by simp; omega) _, (below_keeps hXN).trans ((KeepsOthers.setCell _ _ _).from _)⟩⟩
   case done2 =>
     rintro ys' W' rfl ⟨hq, hBW⟩
     have hBX : Below W.heap.size W W' := hBR.trans (hBW.mono hBR.size)
     gi_wp2
     refine ⟨below_keeps hBX, KpB.of hBX (by omega) (by omega), fun i hi => ?_, hB1.trans (hBX.mono hB1.size)⟩
     rcases List.mem_append.1 hi with h | h
     · exact hp i h
     · simp at h
       subst h
       exact fun k hk => hq ⟨k, hk⟩ (List.mem_finRange _)
   case stop2 =>
     rintro c pre' W' hpre ⟨⟨⟨rfl, y, hy, hk⟩, bR2⟩, hBW, hKF⟩
     gi_wp2
     exact ⟨hKF, ⟨⟨rfl, x, List.mem_append.2 (.inr (by simp)), y.1, y.2, hk⟩, bR2⟩, (hB0.trans (hB1.mono (by omega))).trans hBW⟩
 case done =>
   rintro D zs W hD rfl ⟨hp, hB1⟩ hK
   have bR1 := boxed_step bR hB1
   have cR := bR1.cell
   have fR := bR1.frozen
   gi_wp2
   have hK' := (KeepsOthers.setCell W ⟨w.heap.size + 1 + 1, 0, none⟩ (.bool false)).same D _ hK rfl
   refine ⟨by simp, .inl ⟨_, _, rfl, run_takeDeferred hK', ?_⟩⟩
   have hc5 := cell_kept (bR1.set (.bool false)).cell (grownBy_putObj' _ D (.deferred none)) (fun r e => by cases e; exact ⟨_, hK', rfl⟩)
   have hBW : Below w.heap.size w W := hB0.trans (hB1.mono (by omega))
   refine ⟨.bool false, ?_, by unfold rmB; rw [decide_eq_false (fun h => h (fun i hi k hk => hp ⟨i, hi⟩ (List.mem_finRange _) k hk))], (hBW.setCell (p := ⟨w.heap.size + 1 + 1, 0, none⟩) (by simp; omega) _).trans (belowK_b (w := w) (Nat.le_refl _) _ D _ _ (by omega) hK' rfl rfl)⟩
   simp [results, Tryz.results38, go_sem, hc5]
 case stop =>
   rintro D c pre W hD hpre ⟨⟨⟨rfl, i, hi, k, hk, hbd⟩, bR1⟩, hB1⟩ hK
   have cR := bR1.cell
   gi_wp2
   refine ⟨by simp, .inl ⟨_, _, rfl, run_takeDeferred hK, ?_⟩⟩
   have hc5 := cell_kept bR1.cell (grownBy_putObj' _ D (.deferred none)) (fun r e => by cases e; exact ⟨_, hK, rfl⟩)
   have hd : rmB n p m q = true := decide_eq_true (fun h => hbd (h i.1 i.2 k hk))
   refine ⟨.bool true, ?_, by rw [hd], hB1.trans (belowK_b (w := w) (Nat.le_refl _) _ D _ _ (by omega) hK rfl rfl)⟩
   simp [results, Tryz.results38, go_sem, hc5]
def sumR (L : Nat → Nat) : Nat → Nat
 | 0 => 0
 | i + 1 => sumR L i + L i
theorem sumR_le {L : Nat → Nat} {n : Nat} (hL : ∀ i, i < n → L i ≤ 1048576) : ∀ c, c ≤ n → sumR L c ≤ c * 1048576
 | 0, _ => by simp [sumR]
 | c + 1, h => by
   have := sumR_le hL c (by omega)
   have := hL c (by omega)
   rw [sumR]
   omega
def firstP (P : Nat → Bool) (n : Nat) : Option Nat := (List.range n).find? P
theorem firstP_some {P : Nat → Bool} {n c : Nat} (hc : c < n) (h : P c = true) (ha : ∀ j, j < c → P j = false) : firstP P n = some c := by
 unfold firstP
 rw [List.find?_range_eq_some]
 exact ⟨h, by simpa using hc, fun j hj => by simp [ha j hj]⟩
theorem firstP_none {P : Nat → Bool} {n : Nat} (ha : ∀ j, j < n → P j = false) : firstP P n = none := by
 unfold firstP
 rw [List.find?_eq_none]
 intro x hx
 rw [ha x (by simpa using hx)]
 simp
def mtA (L : Nat → Nat) (q : Nat → Ps) (i : Nat) : Bool := (List.range i).any fun k => rmB (L i) (q i) (L k) (q k)
theorem mtA_true {L : Nat → Nat} {q : Nat → Ps} {i k : Nat} (hk : k < i) (h : rmB (L i) (q i) (L k) (q k) = true) : mtA L q i = true := List.any_eq_true.2 ⟨k, by simpa using hk, h⟩
theorem mtA_false {L : Nat → Nat} {q : Nat → Ps} {i : Nat} (h : ∀ k, k < i → rmB (L i) (q i) (L k) (q k) = false) : mtA L q i = false := List.any_eq_false.2 fun k hk => by rw [h k (by simpa using hk)]; simp
def mfV (n : Nat) (L : Nat → Nat) (q : Nat → Ps) : Int × Int := match firstP (mtA L q) n with
 | some i => (3, i)
 | none => (0, 0)
def lyF (n : Nat) (L : Nat → Nat) (q : Nat → Ps) : Int × Int :=
 if 6 < n then (1, 0) else if 20 < sumR L n then (2, 0) else
   match firstP (fun i => decide (rgF (L i) (q i) ≠ 0)) n with
   | some i => (10 + rgF (L i) (q i), i)
   | none => mfV n L q
theorem rgF_in (n : Nat) (p : Ps) : 0 ≤ rgF n p ∧ rgF n p ≤ 5 := by
 unfold rgF
 repeat' split
 all_goals omega
def TwoP (x : Int × Int) (w : World) : Ending → World → Prop := VP (.tuple #[.int .i64 x.1, .int .i64 x.2]) w
set_option maxRecDepth 100000 in
set_option maxHeartbeats 4000000 in
theorem countSpots_any (ao : Option Addr) (n cap : Nat) (S : Nat → Option Addr × Nat) (L : Nat → Nat) (q : Nat → Ps) (hn : n ≤ 6) (hL : ∀ i, i < n → L i ≤ 1048576) (w : World) (hS : RgIn w ao n S L q) : Calls Tryz.prog 112 #[.slice ao n cap] w (VP (.int .i64 (sumR L n : Nat)) w) := by
 have HS : Hid (RgIn w ao n S L q) := hS
 have HL : Hid (∀ i, i < n → L i ≤ 1048576) := hL
 have hnI : (n : Int) ≤ 6 := by omega
 clear hS hL
 go_enter Tryz.func112, Tryz.ntmps112
 go_wp2_with fail
 go_loopw [3, 8] (fun s i wr => ∃ c : Nat, c ≤ n ∧ i = .int .i64 c ∧ s = .int .i64 (sumR L c : Nat) ∧ Below w.heap.size w wr) (fun _ i _ => n - (intOf i).toNat)
 case atStart => exact ⟨0, by omega, rfl, rfl, Below.refl _ _⟩
 case round =>
   obtain ⟨c, hc, rfl, rfl, HB⟩ := hrel
   by_cases hcn : c < n
   · obtain ⟨A, off, rfl, hA, q0, -⟩ := HS.out.step HB c hcn
     have hcI : (c : Int) < n := by omega
     have s1 := sumR_le HL.out c hc
     have s2 := HL.out c hcn
     have hw : IntKind.i64.wrap (((sumR L c : Nat) : Int) + (L c : Int)) = ((sumR L (c + 1) : Nat) : Int) := by rw [IntKind.wrap_i64, sumR]; omega
     have HBN : Below w.heap.size w (wr.alloc (.cells #[.slice (S c).1 (L c) (S c).2] 34)) := HB.alloc HB.size _
     clear s1 s2 HB
     go_wp2
     go_roundw
     case rel => exact ⟨c + 1, by omega, by go_num, rfl, HBN⟩
     case measure => simp [intOf]; omega
   · obtain rfl : c = n := by omega
     clear HS HL
     go_wp2
     go_ret
     exact ⟨rfl, HB⟩
set_option maxRecDepth 100000 in
set_option maxHeartbeats 8000000 in
theorem meetingFault_any (ao : Option Addr) (n cap : Nat) (S : Nat → Option Addr × Nat) (L : Nat → Nat) (q : Nat → Ps) (hn : n ≤ 6) (hcap : n ≤ cap) (hcap2 : cap ≤ 9223372036854775807) (hR : ∀ i, i < n → RgOk (L i) (q i)) (w : World) (hS : RgIn w ao n S L q) : Calls Tryz.prog 113 #[.slice ao n cap] w (TwoP (mfV n L q) w) := by
 have HS : Hid (RgIn w ao n S L q) := hS
 have HR : Hid (∀ i, i < n → RgOk (L i) (q i)) := hR
 have hnI : (n : Int) ≤ 6 := by omega
 have hcI1 : (n : Int) ≤ cap := by omega
 have hcI2 : (cap : Int) ≤ 9223372036854775807 := by omega
 clear hS hR
 go_enter Tryz.func113, Tryz.ntmps113
 go_wp2_with fail
 go_step3
 go_wp2_with fail
 go_step3
 go_wp2_with fail
 go_loopw [4, 5, 12] (fun a b i wr => ∃ c : Nat, c ≤ n ∧ i = .int .i64 c ∧ a = .int .i64 0 ∧ b = .int .i64 0 ∧ (∀ j, j < c → mtA L q j = false) ∧ Below w.heap.size w wr) (fun _ _ i _ => n - (intOf i).toNat)
 case atStart => exact ⟨0, by omega, rfl, rfl, rfl, fun j hj => by omega, Below.refl _ _⟩
 case round =>
   obtain ⟨c, hc, rfl, rfl, rfl, hall, HB⟩ := hrel
   have HA : Hid (∀ j, j < c → mtA L q j = false) := hall
   clear hall
   by_cases hcn : c < n
   · obtain ⟨A, off, rfl, hA, q0, hsp⟩ := HS.out.step HB c hcn
     have hcI : (c : Int) < n := by omega
     have hcc : (c : Int) ≤ cap := by omega
     have hc0 : (0 : Int) ≤ c := by omega
     have hB1 := (Below.refl wr.heap.size wr).alloc (Nat.le_refl _) (.cells #[.slice (S c).1 (L c) (S c).2] 34)
     have B1 := Blk.new wr [.slice (S c).1 (L c) (S c).2] 34 rfl
     have HBo := HB.trans (hB1.mono HB.size)
     clear HB hsp hA
     go_wp2_with fail
     clear q0 hB1
     generalize wr.alloc (.cells #[.slice (S c).1 (L c) (S c).2] 34) = W4 at *
     generalize wr.heap.size = gr at *
     go_loopw [4, 5, 21] (fun a b i wr => ∃ d : Nat, d ≤ c ∧ i = .int .i64 d ∧ a = .int .i64 0 ∧ b = .int .i64 0 ∧ (∀ k, k < d → rmB (L c) (q c) (L k) (q k) = false) ∧ Below W4.heap.size W4 wr) (fun _ _ i _ => c - (intOf i).toNat)
     case atStart => exact ⟨0, by omega, rfl, rfl, rfl, fun j hj => by omega, Below.refl _ _⟩
     case round =>
       rename_i hrel
       obtain ⟨d, hd, rfl, rfl, rfl, hall, HB⟩ := hrel
       have HE : Hid (∀ k, k < d → rmB (L c) (q c) (L k) (q k) = false) := hall
       clear hall
       have HB2 := HBo.trans (HB.mono HBo.size)
       by_cases hdn : d < c
       · have hdI : (d : Int) < c := by omega
         obtain ⟨A', off', hao, hA, q0, hsp⟩ := HS.out.step HB2 d (by omega)
         obtain ⟨rfl, rfl⟩ : A = A' ∧ off = off' := by simpa using hao
         have hsc : SpIn wr (S c).1 (L c) (q c) := by
           obtain ⟨_, _, _, _, _, h⟩ := HS.out.step HB2 c hcn
           exact h
         have hB3 := (Below.refl wr.heap.size wr).alloc (Nat.le_refl _) (.cells #[.slice (S d).1 (L d) (S d).2] 34)
         have B2 := (B1.step HB).step hB3
         have b1 := B2.c 0 rfl
         have b3 := (Blk.new wr [.slice (S d).1 (L d) (S d).2] 34 rfl).c 0 rfl
         replace hsc := hsc.step hB3
         replace hsp := hsp.step hB3
         have r1 := HR.out c hcn
         have r2 := HR.out d (by omega)
         have MM := fun w h k => meets_any (S c).1 (S d).1 (L c) (S c).2 (L d) (S d).2 (q c) (q d) r1.h3 r1.h12 r1.ok r1.one r2.h3 r2.h12 r2.ok r2.one w h k
         have HBN := HB.trans (hB3.mono HB.size)
         clear hA hao r1 r2 HB2 HB hB3 B2
         go_upto_region 8 with fail
         clear q0
         generalize wr.alloc (.cells #[.slice (S d).1 (L d) (S d).2] 34) = W5 at *
         generalize wr.heap.size = gd at *
         go_wp2_with fail
         refine (MM _ hsc hsp).mono ?_
         rintro e w1 ⟨rfl, hB⟩
         replace HBN := HBN.trans (hB.mono HBN.size)
         clear hB hsc hsp MM b1 b3
         cases hk : rmB (L c) (q c) (L d) (q d)
         · have HK : Hid (rmB (L c) (q c) (L d) (q d) = false) := hk
           clear hk
           go_wp2
           go_roundw
           case rel => exact ⟨d + 1, by omega, by go_num, rfl, rfl, fun k hk => by
             rcases Nat.lt_or_ge k d with h | h
             · exact HE.out k h
             · obtain rfl : k = d := by omega
               exact HK.out, HBN⟩
           case measure => simp [intOf]; omega
         · have HO : Hid (mfV n L q = (3, (c : Int))) := by
             show _ = _
             unfold mfV
             rw [firstP_some hcn (mtA_true hdn hk) HA.out]
           have HBF := HBo.trans (HBN.mono HBo.size)
           clear hk HBN HBo
           go_wp2
           go_ret2
           exact ⟨by rw [HO.out]; rfl, HBF⟩
       · obtain rfl : d = c := by omega
         have HBN := HBo.trans (HB.mono HBo.size)
         have HM : Hid (mtA L q d = false) := mtA_false HE.out
         clear HBo HB B1 HB2
         go_wp2
         go_roundw
         case rel => exact ⟨d + 1, by omega, by go_num, rfl, rfl, fun j hj => by
           rcases Nat.lt_or_ge j d with h | h
           · exact HA.out j h
           · obtain rfl : j = d := by omega
             exact HM.out, HBN⟩
         case measure => simp [intOf]; omega
   · obtain rfl : c = n := by omega
     have HO : Hid (mfV c L q = (0, 0)) := by
       show _ = _
       unfold mfV
       rw [firstP_none HA.out]
     clear HS HR
     go_wp2
     go_ret2
     exact ⟨by rw [HO.out]; rfl, HB⟩
set_option maxRecDepth 100000 in
set_option maxHeartbeats 8000000 in
theorem implLayerFault_any (ao : Option Addr) (n cap : Nat) (S : Nat → Option Addr × Nat) (L : Nat → Nat) (q : Nat → Ps) (hn : n ≤ 1048576) (hcap : n ≤ cap) (hcap2 : cap ≤ 9223372036854775807) (hL : ∀ i, i < n → L i ≤ 1048576) (hC : ∀ i, i < n → L i ≤ (S i).2 ∧ (S i).2 ≤ 9223372036854775807) (w : World) (hS : RgIn w ao n S L q) : Calls Tryz.prog 74 #[.slice ao n cap] w (TwoP (lyF n L q) w) := by
 have hnI : (n : Int) ≤ 1048576 := by omega
 by_cases h6 : 6 < n
 · have HO : Hid (lyF n L q = (1, 0)) := by show _ = _; unfold lyF; rw [if_pos h6]
   have h6I : (6 : Int) < n := by omega
   clear hS hL hC
   go_enter Tryz.func74, Tryz.ntmps74
   go_wp2
   go_ret2
   exact ⟨by rw [HO.out]; rfl, Below.refl _ _⟩
 have h6I : (n : Int) ≤ 6 := by omega
 have CS := fun w h => countSpots_any ao n cap S L q (by omega) hL w h
 have HS : Hid (RgIn w ao n S L q) := hS
 have HL : Hid (∀ i, i < n → L i ≤ 1048576) := hL
 have HC : Hid (∀ i, i < n → L i ≤ (S i).2 ∧ (S i).2 ≤ 9223372036854775807) := hC
 have hz := sumR_le hL n (Nat.le_refl _)
 have hzI : ((sumR L n : Nat) : Int) ≤ 6291456 := by omega
 clear hS hL hC hz
 go_enter Tryz.func74, Tryz.ntmps74
 go_wp2_with fail
 refine (CS _ HS.out).mono ?_
 rintro e w1 ⟨rfl, hB⟩
 have HB1 := hB
 clear hB CS
 by_cases h20 : 20 < sumR L n
 · have HO : Hid (lyF n L q = (2, 0)) := by show _ = _; unfold lyF; rw [if_neg h6, if_pos h20]
   have h20I : (20 : Int) < (sumR L n : Nat) := by omega
   clear HS HL HC
   go_wp2
   go_ret2
   exact ⟨by rw [HO.out]; rfl, HB1⟩
 have h20I : ((sumR L n : Nat) : Int) ≤ 20 := by omega
 go_wp2_with fail
 go_loopw [15] (fun i wr => ∃ c : Nat, c ≤ n ∧ i = .int .i64 c ∧ (∀ j, j < c → rgF (L j) (q j) = 0) ∧ Below w.heap.size w wr) (fun i _ => n - (intOf i).toNat)
 case atStart => exact ⟨0, by omega, rfl, fun j hj => by omega, HB1⟩
 case round =>
   clear HB1
   obtain ⟨c, hc, rfl, hall, HB⟩ := hrel
   have HA : Hid (∀ j, j < c → rgF (L j) (q j) = 0) := hall
   clear hall
   by_cases hcn : c < n
   · obtain ⟨A, off, rfl, hA, q0, hsp⟩ := HS.out.step HB c hcn
     have hcI : (c : Int) < n := by omega
     have hB1 := (Below.refl wr.heap.size wr).alloc (Nat.le_refl _) (.cells #[.slice (S c).1 (L c) (S c).2] 34)
     replace hsp := hsp.step hB1
     have HBN := HB.trans (hB1.mono HB.size)
     have RF := fun w h => implRingFault_any (S c).1 (L c) (S c).2 (q c) (HL.out c hcn) (HC.out c hcn).1 (HC.out c hcn).2 w h
     have hin := rgF_in (L c) (q c)
     have hrz : Hid (rgF (L c) (q c) = 0 ∨ rgF (L c) (q c) ≠ 0) := Decidable.em _
     have HFs : Hid (rgF (L c) (q c) ≠ 0 → lyF n L q = (10 + rgF (L c) (q c), (c : Int))) := fun hk => by
       unfold lyF
       rw [if_neg h6, if_neg h20, firstP_some (P := fun i => decide (rgF (L i) (q i) ≠ 0)) hcn (decide_eq_true hk) (fun j hj => decide_eq_false (fun h => h (HA.out j hj)))]
     have HFz : Hid (rgF (L c) (q c) = 0 → ∀ j, j < c + 1 → rgF (L j) (q j) = 0) := fun hk j hj => by
       rcases Nat.lt_or_ge j c with h | h
       · exact HA.out j h
       · obtain rfl : j = c := by omega
         exact hk
     clear hA HB hB1
     go_wp2_with fail
     generalize wr.alloc (.cells #[.slice (S c).1 (L c) (S c).2] 34) = W4 at *
     refine (RF _ hsp).mono ?_
     rintro e w2 ⟨rfl, hB⟩
     replace HBN := HBN.trans (hB.mono HBN.size)
     clear hB RF hsp q0
     generalize rgF (L c) (q c) = z at *
     by_cases hz : z = 0
     · subst hz
       go_wp2
       go_roundw
       case rel => exact ⟨c + 1, by omega, by go_num, HFz.out (by trivial), HBN⟩
       case measure => simp [intOf]; omega
     · have hz2 : (z != 0) = true := by simp [hz]
       have HO : Hid (lyF n L q = (10 + z, (c : Int))) := HFs.out hz
       have hw : IntKind.i64.wrap (10 + z) = 10 + z := by rw [IntKind.wrap_i64]; omega
       clear HFs HFz hrz hin
       go_wp2
       go_ret2
       exact ⟨by rw [HO.out]; rfl, HBN⟩
   · obtain rfl : c = n := by omega
     have MF := fun w h => meetingFault_any ao c cap S L q (by omega) hcap hcap2 (fun i hi => rgF_ok (HA.out i hi)) w h
     have HO : Hid (lyF c L q = mfV c L q) := by
       show _ = _
       unfold lyF
       rw [if_neg h6, if_neg h20, firstP_none (P := fun i => decide (rgF (L i) (q i) ≠ 0)) (fun j hj => decide_eq_false (fun h => h (HA.out j hj)))]
     unfold TwoP at MF
     generalize mfV c L q = o at *
     go_wp2_with fail
     refine (MF _ (HS.out.step HB)).mono ?_
     rintro e w2 ⟨rfl, hB⟩
     replace HB := HB.trans (hB.mono HB.size)
     clear hB MF HS HL HC HA
     go_wp2
     go_ret2
     exact ⟨by rw [HO.out]; rfl, HB⟩
set_option maxRecDepth 100000 in
set_option maxHeartbeats 8000000 in
theorem specLayerFault_any (ao : Option Addr) (n cap : Nat) (S : Nat → Option Addr × Nat) (L : Nat → Nat) (q : Nat → Ps) (hn : n ≤ 1048576) (hL : ∀ i, i < n → L i ≤ 1048576) (w : World) (hS : RgIn w ao n S L q) : Calls Tryz.prog 73 #[.slice ao n cap] w (TwoP (lyF n L q) w) := by
 have hnI : (n : Int) ≤ 1048576 := by omega
 by_cases h6 : 6 < n
 · have HO : Hid (lyF n L q = (1, 0)) := by show _ = _; unfold lyF; rw [if_pos h6]
   have h6I : (6 : Int) < n := by omega
   clear hS hL
   go_enter Tryz.func73, Tryz.ntmps73
   go_wp2
   go_ret2
   exact ⟨by rw [HO.out]; rfl, Below.refl _ _⟩
 have h6I : (n : Int) ≤ 6 := by omega
 have HS : Hid (RgIn w ao n S L q) := hS
 have HL : Hid (∀ i, i < n → L i ≤ 1048576) := hL
 have hz := sumR_le hL n (Nat.le_refl _)
 have hzI : ((sumR L n : Nat) : Int) ≤ 6291456 := by omega
 clear hS hL hz
 go_enter Tryz.func73, Tryz.ntmps73
 go_wp2_with fail
 go_loopw [4, 5] (fun s i wr => ∃ c : Nat, c ≤ n ∧ i = .int .i64 c ∧ s = .int .i64 (sumR L c : Nat) ∧ Below w.heap.size w wr) (fun _ i _ => n - (intOf i).toNat)
 case atStart => exact ⟨0, by omega, rfl, rfl, Below.refl _ _⟩
 case round =>
   obtain ⟨c, hc, rfl, rfl, HBa⟩ := hrel
   by_cases hcn : c < n
   · obtain ⟨A, off, rfl, hA, q0, -⟩ := HS.out.step HBa c hcn
     have hcI : (c : Int) < n := by omega
     have s1 := sumR_le HL.out c hc
     have s2 := HL.out c hcn
     have hw : IntKind.i64.wrap (((sumR L c : Nat) : Int) + (L c : Int)) = ((sumR L (c + 1) : Nat) : Int) := by rw [IntKind.wrap_i64, sumR]; omega
     clear s1 s2
     go_wp2
     go_roundw
     case rel => exact ⟨c + 1, by omega, by go_num, by trivial, HBa⟩
     case measure => simp [intOf]; omega
   · obtain rfl : c = n := by omega
     by_cases h20 : 20 < sumR L c
     · have HO : Hid (lyF c L q = (2, 0)) := by show _ = _; unfold lyF; rw [if_neg h6, if_pos h20]
       have h20I : (20 : Int) < (sumR L c : Nat) := by omega
       clear HS HL
       go_wp2
       go_ret2
       exact ⟨by rw [HO.out]; rfl, HBa⟩
     have h20I : ((sumR L c : Nat) : Int) ≤ 20 := by omega
     go_wp2_with fail
     generalize hcm : c = m at *
     clear hcm
     have HSa : Hid (RgIn wr ao m S L q) := HS.out.step HBa
     clear HS
     generalize wr = W2 at *
     go_loopw [6] (fun i wx => ∃ c : Nat, c ≤ m ∧ i = .int .i64 c ∧ (∀ j, j < c → rgF (L j) (q j) = 0) ∧ Below W2.heap.size W2 wx) (fun i _ => m - (intOf i).toNat)
     case atStart => exact ⟨0, by omega, rfl, fun j hj => by omega, Below.refl _ _⟩
     case round =>
       rename_i hrel
       obtain ⟨c, hc, rfl, hall, HB⟩ := hrel
       have HA : Hid (∀ j, j < c → rgF (L j) (q j) = 0) := hall
       clear hall
       by_cases hcn : c < m
       · obtain ⟨A, off, rfl, hA, q0, hsp⟩ := HSa.out.step HB c hcn
         have hcI : (c : Int) < m := by omega
         have RF := fun w h => specRingFault_any (S c).1 (L c) (S c).2 (q c) (HL.out c hcn) w h
         have hin := rgF_in (L c) (q c)
         have HFs : Hid (rgF (L c) (q c) ≠ 0 → lyF m L q = (10 + rgF (L c) (q c), (c : Int))) := fun hk => by
           unfold lyF
           rw [if_neg h6, if_neg h20, firstP_some (P := fun i => decide (rgF (L i) (q i) ≠ 0)) hcn (decide_eq_true hk) (fun j hj => decide_eq_false (fun h => h (HA.out j hj)))]
         have HFz : Hid (rgF (L c) (q c) = 0 → ∀ j, j < c + 1 → rgF (L j) (q j) = 0) := fun hk j hj => by
           rcases Nat.lt_or_ge j c with h | h
           · exact HA.out j h
           · obtain rfl : j = c := by omega
             exact hk
         clear hA
         go_wp2_with fail
         refine (RF _ hsp).mono ?_
         rintro e w2 ⟨rfl, hB⟩
         replace HB := HB.trans (hB.mono HB.size)
         clear hB RF hsp q0
         generalize rgF (L c) (q c) = z at *
         by_cases hz : z = 0
         · subst hz
           go_wp2
           go_roundw
           case rel => exact ⟨c + 1, by omega, by go_num, HFz.out (by trivial), HB⟩
           case measure => simp [intOf]; omega
         · have hz2 : (z != 0) = true := by simp [hz]
           have HO : Hid (lyF m L q = (10 + z, (c : Int))) := HFs.out hz
           have hw : IntKind.i64.wrap (10 + z) = 10 + z := by rw [IntKind.wrap_i64]; omega
           clear HFs HFz hin
           go_wp2
           go_ret2
           exact ⟨by rw [HO.out]; rfl, HBa.trans (HB.mono HBa.size)⟩
       · obtain rfl : m = c := by omega
         have HR : Hid (∀ i, i < m → RgOk (L i) (q i)) := fun i hi => rgF_ok (HA.out i hi)
         have HO1 : Hid (lyF m L q = mfV m L q) := by
           show _ = _
           unfold lyF
           rw [if_neg h6, if_neg h20, firstP_none (P := fun i => decide (rgF (L i) (q i) ≠ 0)) (fun j hj => decide_eq_false (fun h => h (HA.out j hj)))]
         have HS2 : Hid (RgIn wr ao m S L q) := HSa.out.step HB
         have HBf := HBa.trans (HB.mono HBa.size)
         clear HA HB HSa
         go_wp2_with fail
         generalize wr = W3 at *
         go_loopw [8] (fun i wx => ∃ c : Nat, c ≤ m ∧ i = .int .i64 c ∧ (∀ j, j < c → mtA L q j = false) ∧ Below W3.heap.size W3 wx) (fun i _ => m - (intOf i).toNat)
         case atStart => exact ⟨0, by omega, rfl, fun j hj => by omega, Below.refl _ _⟩
         case round =>
           rename_i hrel
           obtain ⟨c, hc, rfl, hall, HB⟩ := hrel
           have HA : Hid (∀ j, j < c → mtA L q j = false) := hall
           clear hall
           by_cases hcn : c < m
           · have hcI : (c : Int) < m := by omega
             have HBo := HB
             clear HB
             go_wp2_with fail
             generalize wr = W4 at *
             go_loopw [9] (fun i wx => ∃ d : Nat, d ≤ c ∧ i = .int .i64 d ∧ (∀ k, k < d → rmB (L c) (q c) (L k) (q k) = false) ∧ Below W4.heap.size W4 wx) (fun i _ => c - (intOf i).toNat)
             case atStart => exact ⟨0, by omega, rfl, fun j hj => by omega, Below.refl _ _⟩
             case round =>
               rename_i hrel
               obtain ⟨d, hd, rfl, hall, HB⟩ := hrel
               have HE : Hid (∀ k, k < d → rmB (L c) (q c) (L k) (q k) = false) := hall
               clear hall
               have HB2 := HBo.trans (HB.mono HBo.size)
               by_cases hdn : d < c
               · have hdI : (d : Int) < c := by omega
                 obtain ⟨A, off, rfl, hA, q0, hsc⟩ := HS2.out.step HB2 c hcn
                 obtain ⟨A', off', hao, -, q1, hsp⟩ := HS2.out.step HB2 d (by omega)
                 obtain ⟨rfl, rfl⟩ : A = A' ∧ off = off' := by simpa using hao
                 have hdm : (d : Int) < m := by omega
                 have MM := fun w h k => l5Meet_any (S c).1 (S d).1 (L c) (S c).2 (L d) (S d).2 (q c) (q d) (HR.out c hcn) (HR.out d (by omega)) w h k
                 have H0 := Below.refl wr.heap.size wr
                 have HK : ∀ V, Below wr.heap.size wr V → (fun w' : World => w'.cell? ⟨A, off + c, none⟩ = some (.slice (S c).1 (L c) (S c).2) ∧ w'.cell? ⟨A, off + d, none⟩ = some (.slice (S d).1 (L d) (S d).2)) V := fun V h => ⟨(h.cell (p := ⟨A, _, none⟩) hA).trans q0, (h.cell (p := ⟨A, _, none⟩) hA).trans q1⟩
                 clear hao
                 go_upto_region 22 with fail
                 go_cut [64] (fun z wx => z = .bool (rmB (L c) (q c) (L d) (q d)) ∧ Below wr.heap.size wr wx)
                 case first =>
                   clear HE HA HR HS2 HL
                   go_region_held3 (fun w' : World => w'.cell? ⟨A, off + c, none⟩ = some (.slice (S c).1 (L c) (S c).2) ∧ w'.cell? ⟨A, off + d, none⟩ = some (.slice (S d).1 (L d) (S d).2)) (refine HK _ ?_ <;> repeat (first | (with_reducible exact H0) | (with_reducible refine Below.drew ?_)))
                     (first
                       | (go_at_call 36; refine (MM _ (by with_reducible first | exact hsc | exact hsc.drew) (by with_reducible first | exact hsp | exact hsp.drew)).mono ?_; rintro e w3 ⟨rfl, hB⟩; (first | (have Hn : Below wr.heap.size wr w3 := (by with_reducible exact H0.trans (hB.mono H0.size))) | (have Hn : Below wr.heap.size wr w3 := (by with_reducible exact H0.drew.trans (hB.mono H0.drew.size)))); clear hB H0; have H0 := Hn; clear Hn))
                   all_goals go_wp2_with fail
                   all_goals go_meet
                   all_goals exact ⟨rfl, by first | (with_reducible exact H0) | (with_reducible exact H0.drew)⟩
                 case rest =>
                   obtain ⟨hq, hB⟩ := hcut
                   subst hq
                   have HBN := HB.trans (hB.mono HB.size)
                   clear hB HB HB2 H0 HK MM hsc hsp q0 q1 hA
                   cases hk : rmB (L c) (q c) (L d) (q d)
                   · have HK : Hid (rmB (L c) (q c) (L d) (q d) = false) := hk
                     clear hk
                     go_wp2
                     go_roundw
                     case rel => exact ⟨d + 1, by omega, by go_num, fun k hk => by
                       rcases Nat.lt_or_ge k d with h | h
                       · exact HE.out k h
                       · obtain rfl : k = d := by omega
                         exact HK.out, HBN⟩
                     case measure => simp [intOf]; omega
                   · have HO : Hid (lyF m L q = (3, (c : Int))) := by
                       show _ = _
                       rw [HO1.out]
                       unfold mfV
                       rw [firstP_some hcn (mtA_true hdn hk) HA.out]
                     have HBF := HBf.trans ((HBo.trans (HBN.mono HBo.size)).mono HBf.size)
                     clear hk HBN HBo HBf
                     go_wp2
                     go_ret2
                     exact ⟨by rw [HO.out]; rfl, HBF⟩
               · obtain rfl : d = c := by omega
                 have HBN := HBo.trans (HB.mono HBo.size)
                 have HM : Hid (mtA L q d = false) := mtA_false HE.out
                 clear HBo HB HB2
                 go_wp2
                 go_roundw
                 case rel => exact ⟨d + 1, by omega, by go_num, fun j hj => by
                   rcases Nat.lt_or_ge j d with h | h
                   · exact HA.out j h
                   · obtain rfl : j = d := by omega
                     exact HM.out, HBN⟩
                 case measure => simp [intOf]; omega
           · obtain rfl : m = c := by omega
             have HO : Hid (lyF m L q = (0, 0)) := by
               show _ = _
               rw [HO1.out]
               unfold mfV
               rw [firstP_none HA.out]
             have HBF := HBf.trans (HB.mono HBf.size)
             clear HS2 HR HL
             go_wp2
             go_ret2
             exact ⟨by rw [HO.out]; rfl, HBF⟩
def lyB (n : Nat) (L : Nat → Nat) (q : Nat → Ps) : Bool := decide ((lyF n L q).1 = 0)
set_option maxRecDepth 100000 in
set_option maxHeartbeats 4000000 in
theorem l6Ok_any (ao : Option Addr) (n cap : Nat) (S : Nat → Option Addr × Nat) (L : Nat → Nat) (q : Nat → Ps) (hn : n ≤ 1048576) (hL : ∀ i, i < n → L i ≤ 1048576) (w : World) (hS : RgIn w ao n S L q) : Calls Tryz.prog 40 #[.slice ao n cap] w (VP (.bool (lyB n L q)) w) := by
 have C := specLayerFault_any ao n cap S L q hn hL w hS
 unfold lyB
 unfold TwoP at C
 revert C
 generalize lyF n L q = o
 obtain ⟨o1, o2⟩ := o
 intro C
 clear hS hL
 go_enter Tryz.func40, Tryz.ntmps40
 go_wp2_with fail
 refine C.mono ?_
 rintro e w1 ⟨rfl, hB⟩
 by_cases h : o1 = 0
 · subst h
   go_wp2
   go_ret
   exact ⟨rfl, hB⟩
 · have hf : (o1 == 0) = false := by simp; omega
   have HD : Hid (decide (o1 = 0) = false) := decide_eq_false h
   go_wp2
   go_ret
   exact ⟨by simp only [HD.out]; rfl, hB⟩
set_option maxRecDepth 100000 in
set_option maxHeartbeats 4000000 in
theorem isLayer_any (ao : Option Addr) (n cap : Nat) (S : Nat → Option Addr × Nat) (L : Nat → Nat) (q : Nat → Ps) (hn : n ≤ 1048576) (hcap : n ≤ cap) (hcap2 : cap ≤ 9223372036854775807) (hL : ∀ i, i < n → L i ≤ 1048576) (hC : ∀ i, i < n → L i ≤ (S i).2 ∧ (S i).2 ≤ 9223372036854775807) (w : World) (hS : RgIn w ao n S L q) : Calls Tryz.prog 42 #[.slice ao n cap] w (VP (.bool (lyB n L q)) w) := by
 have C := implLayerFault_any ao n cap S L q hn hcap hcap2 hL hC w hS
 unfold lyB
 unfold TwoP at C
 revert C
 generalize lyF n L q = o
 obtain ⟨o1, o2⟩ := o
 intro C
 clear hS hL hC
 go_enter Tryz.func42, Tryz.ntmps42
 go_wp2_with fail
 refine C.mono ?_
 rintro e w1 ⟨rfl, hB⟩
 by_cases h : o1 = 0
 · subst h
   go_wp2
   go_ret
   exact ⟨rfl, hB⟩
 · have hf : (o1 == 0) = false := by simp; omega
   have HD : Hid (decide (o1 = 0) = false) := decide_eq_false h
   go_wp2
   go_ret
   exact ⟨by simp only [HD.out]; rfl, hB⟩
end Go.Proofs.YtibbjjlapglndaaGreat
