/- What lies between two points: the model's walk, and both sides. -/
import Derived.Test.YtckbhihdhcgaeaaPtX
namespace Go.Proofs.Ytckbhihdhcgaeaa
open Go.RowKit
theorem swap_args {ps1 ps2 ps3 : Bool} {po1 po2 po3 : Option Addr} {pn1 pc1 pn2 pc2 pn3 pc3 : Nat} {qs1 qs2 qs3 : Bool} {qo1 qo2 qo3 : Option Addr} {qn1 qc1 qn2 qc2 qn3 qc3 : Nat} {rs1 rs2 rs3 : Bool} {ro1 ro2 ro3 : Option Addr} {rn1 rc1 rn2 rc2 rn3 rc3 : Nat} {w W : World} (T0 : ArgsB w W [[.bool ps1, .slice po1 pn1 pc1, .bool ps2, .slice po2 pn2 pc2, .bool ps3, .slice po3 pn3 pc3], [.bool qs1, .slice qo1 qn1 qc1, .bool qs2, .slice qo2 qn2 qc2, .bool qs3, .slice qo3 qn3 qc3], [.bool rs1, .slice ro1 rn1 rc1, .bool rs2, .slice ro2 rn2 rc2, .bool rs3, .slice ro3 rn3 rc3]]) : ArgsB w ((((((((((((W.setCell ⟨w.heap.size, 0, none⟩ (.bool qs1)).setCell ⟨w.heap.size, 1, none⟩ (.slice qo1 qn1 qc1)).setCell ⟨w.heap.size, 2, none⟩ (.bool qs2)).setCell ⟨w.heap.size, 3, none⟩ (.slice qo2 qn2 qc2)).setCell ⟨w.heap.size, 4, none⟩ (.bool qs3)).setCell ⟨w.heap.size, 5, none⟩ (.slice qo3 qn3 qc3)).setCell ⟨w.heap.size + 1, 0, none⟩ (.bool ps1)).setCell ⟨w.heap.size + 1, 1, none⟩ (.slice po1 pn1 pc1)).setCell ⟨w.heap.size + 1, 2, none⟩ (.bool ps2)).setCell ⟨w.heap.size + 1, 3, none⟩ (.slice po2 pn2 pc2)).setCell ⟨w.heap.size + 1, 4, none⟩ (.bool ps3)).setCell ⟨w.heap.size + 1, 5, none⟩ (.slice po3 pn3 pc3)) [[.bool qs1, .slice qo1 qn1 qc1, .bool qs2, .slice qo2 qn2 qc2, .bool qs3, .slice qo3 qn3 qc3], [.bool ps1, .slice po1 pn1 pc1, .bool ps2, .slice po2 pn2 pc2, .bool ps3, .slice po3 pn3 pc3], [.bool rs1, .slice ro1 rn1 rc1, .bool rs2, .slice ro2 rn2 rc2, .bool rs3, .slice ro3 rn3 rc3]] := by
  have X0 : Blk W w.heap.size [.bool ps1, .slice po1 pn1 pc1, .bool ps2, .slice po2 pn2 pc2, .bool ps3, .slice po3 pn3 pc3] := T0.b 0 rfl
  have Y0 : Blk W (w.heap.size + 1) [.bool qs1, .slice qo1 qn1 qc1, .bool qs2, .slice qo2 qn2 qc2, .bool qs3, .slice qo3 qn3 qc3] := T0.b 1 rfl
  have Z0 : Blk W (w.heap.size + 2) [.bool rs1, .slice ro1 rn1 rc1, .bool rs2, .slice ro2 rn2 rc2, .bool rs3, .slice ro3 rn3 rc3] := T0.b 2 rfl
  have X1 := ((((((X0.setI 0 (by simp) (.bool qs1)).setI 1 (by simp) (.slice qo1 qn1 qc1)).setI 2 (by simp) (.bool qs2)).setI 3 (by simp) (.slice qo2 qn2 qc2)).setI 4 (by simp) (.bool qs3)).setI 5 (by simp) (.slice qo3 qn3 qc3))
  simp only [List.set_cons_zero, List.set_cons_succ] at X1
  have X2 := ((((((X1.setO (p := ⟨w.heap.size + 1, 0, none⟩) (by show w.heap.size ≠ w.heap.size + 1; omega) (.bool ps1)).setO (p := ⟨w.heap.size + 1, 1, none⟩) (by show w.heap.size ≠ w.heap.size + 1; omega) (.slice po1 pn1 pc1)).setO (p := ⟨w.heap.size + 1, 2, none⟩) (by show w.heap.size ≠ w.heap.size + 1; omega) (.bool ps2)).setO (p := ⟨w.heap.size + 1, 3, none⟩) (by show w.heap.size ≠ w.heap.size + 1; omega) (.slice po2 pn2 pc2)).setO (p := ⟨w.heap.size + 1, 4, none⟩) (by show w.heap.size ≠ w.heap.size + 1; omega) (.bool ps3)).setO (p := ⟨w.heap.size + 1, 5, none⟩) (by show w.heap.size ≠ w.heap.size + 1; omega) (.slice po3 pn3 pc3))
  have Y1 := ((((((Y0.setO (p := ⟨w.heap.size, 0, none⟩) (by show w.heap.size + 1 ≠ w.heap.size; omega) (.bool qs1)).setO (p := ⟨w.heap.size, 1, none⟩) (by show w.heap.size + 1 ≠ w.heap.size; omega) (.slice qo1 qn1 qc1)).setO (p := ⟨w.heap.size, 2, none⟩) (by show w.heap.size + 1 ≠ w.heap.size; omega) (.bool qs2)).setO (p := ⟨w.heap.size, 3, none⟩) (by show w.heap.size + 1 ≠ w.heap.size; omega) (.slice qo2 qn2 qc2)).setO (p := ⟨w.heap.size, 4, none⟩) (by show w.heap.size + 1 ≠ w.heap.size; omega) (.bool qs3)).setO (p := ⟨w.heap.size, 5, none⟩) (by show w.heap.size + 1 ≠ w.heap.size; omega) (.slice qo3 qn3 qc3))
  have Y2 := ((((((Y1.setI 0 (by simp) (.bool ps1)).setI 1 (by simp) (.slice po1 pn1 pc1)).setI 2 (by simp) (.bool ps2)).setI 3 (by simp) (.slice po2 pn2 pc2)).setI 4 (by simp) (.bool ps3)).setI 5 (by simp) (.slice po3 pn3 pc3))
  simp only [List.set_cons_zero, List.set_cons_succ] at Y2
  have Z1 := ((((((Z0.setO (p := ⟨w.heap.size, 0, none⟩) (by show w.heap.size + 2 ≠ w.heap.size; omega) (.bool qs1)).setO (p := ⟨w.heap.size, 1, none⟩) (by show w.heap.size + 2 ≠ w.heap.size; omega) (.slice qo1 qn1 qc1)).setO (p := ⟨w.heap.size, 2, none⟩) (by show w.heap.size + 2 ≠ w.heap.size; omega) (.bool qs2)).setO (p := ⟨w.heap.size, 3, none⟩) (by show w.heap.size + 2 ≠ w.heap.size; omega) (.slice qo2 qn2 qc2)).setO (p := ⟨w.heap.size, 4, none⟩) (by show w.heap.size + 2 ≠ w.heap.size; omega) (.bool qs3)).setO (p := ⟨w.heap.size, 5, none⟩) (by show w.heap.size + 2 ≠ w.heap.size; omega) (.slice qo3 qn3 qc3))
  have Z2 := ((((((Z1.setO (p := ⟨w.heap.size + 1, 0, none⟩) (by show w.heap.size + 2 ≠ w.heap.size + 1; omega) (.bool ps1)).setO (p := ⟨w.heap.size + 1, 1, none⟩) (by show w.heap.size + 2 ≠ w.heap.size + 1; omega) (.slice po1 pn1 pc1)).setO (p := ⟨w.heap.size + 1, 2, none⟩) (by show w.heap.size + 2 ≠ w.heap.size + 1; omega) (.bool ps2)).setO (p := ⟨w.heap.size + 1, 3, none⟩) (by show w.heap.size + 2 ≠ w.heap.size + 1; omega) (.slice po2 pn2 pc2)).setO (p := ⟨w.heap.size + 1, 4, none⟩) (by show w.heap.size + 2 ≠ w.heap.size + 1; omega) (.bool ps3)).setO (p := ⟨w.heap.size + 1, 5, none⟩) (by show w.heap.size + 2 ≠ w.heap.size + 1; omega) (.slice po3 pn3 pc3))
  refine ⟨?_, fun j vs hj => ?_⟩
  · repeat' (refine Below.setCell ?_ (by simp) _)
    exact T0.below
  · match j, hj with
    | 0, hj => cases hj; exact X2
    | 1, hj => cases hj; exact Y2
    | 2, hj => cases hj; exact Z2
    | j + 3, hj => simp at hj
theorem num_set6g {w : World} {s : Bool} {ao : Option Addr} {n cap : Nat} {ds : List Int} {z : Int} {k R : Nat} (h : IsNum w s ao n cap ds z k) {qs1 qs2 qs3 : Bool} {qo1 qo2 qo3 : Option Addr} {qn1 qc1 qn2 qc2 qn3 qc3 : Nat} (B : Blk w R [.bool qs1, .slice qo1 qn1 qc1, .bool qs2, .slice qo2 qn2 qc2, .bool qs3, .slice qo3 qn3 qc3]) (v0 v1 v2 v3 v4 v5 : Value) : IsNum ((((((w.setCell ⟨R, 0, none⟩ v0).setCell ⟨R, 1, none⟩ v1).setCell ⟨R, 2, none⟩ v2).setCell ⟨R, 3, none⟩ v3).setCell ⟨R, 4, none⟩ v4).setCell ⟨R, 5, none⟩ v5) s ao n cap ds z k := by
  have h1 := h.setp v0 (B.c 0 rfl) (by intro x e; cases e)
  have B1 := B.setI 0 (by simp) v0
  have h2 := h1.setp v1 (B1.c 1 rfl) (by intro x e; cases e)
  have B2 := B1.setI 1 (by simp) v1
  have h3 := h2.setp v2 (B2.c 2 rfl) (by intro x e; cases e)
  have B3 := B2.setI 2 (by simp) v2
  have h4 := h3.setp v3 (B3.c 3 rfl) (by intro x e; cases e)
  have B4 := B3.setI 3 (by simp) v3
  have h5 := h4.setp v4 (B4.c 4 rfl) (by intro x e; cases e)
  have B5 := B4.setI 4 (by simp) v4
  exact h5.setp v5 (B5.c 5 rfl) (by intro x e; cases e)
theorem swap_num {w W : World} {s : Bool} {ao : Option Addr} {n cap : Nat} {ds : List Int} {z : Int} {k : Nat} (h : IsNum W s ao n cap ds z k) {ps1 ps2 ps3 : Bool} {po1 po2 po3 : Option Addr} {pn1 pc1 pn2 pc2 pn3 pc3 : Nat} {qs1 qs2 qs3 : Bool} {qo1 qo2 qo3 : Option Addr} {qn1 qc1 qn2 qc2 qn3 qc3 : Nat} {rs1 rs2 rs3 : Bool} {ro1 ro2 ro3 : Option Addr} {rn1 rc1 rn2 rc2 rn3 rc3 : Nat} (T0 : ArgsB w W [[.bool ps1, .slice po1 pn1 pc1, .bool ps2, .slice po2 pn2 pc2, .bool ps3, .slice po3 pn3 pc3], [.bool qs1, .slice qo1 qn1 qc1, .bool qs2, .slice qo2 qn2 qc2, .bool qs3, .slice qo3 qn3 qc3], [.bool rs1, .slice ro1 rn1 rc1, .bool rs2, .slice ro2 rn2 rc2, .bool rs3, .slice ro3 rn3 rc3]]) : IsNum ((((((((((((W.setCell ⟨w.heap.size, 0, none⟩ (.bool qs1)).setCell ⟨w.heap.size, 1, none⟩ (.slice qo1 qn1 qc1)).setCell ⟨w.heap.size, 2, none⟩ (.bool qs2)).setCell ⟨w.heap.size, 3, none⟩ (.slice qo2 qn2 qc2)).setCell ⟨w.heap.size, 4, none⟩ (.bool qs3)).setCell ⟨w.heap.size, 5, none⟩ (.slice qo3 qn3 qc3)).setCell ⟨w.heap.size + 1, 0, none⟩ (.bool ps1)).setCell ⟨w.heap.size + 1, 1, none⟩ (.slice po1 pn1 pc1)).setCell ⟨w.heap.size + 1, 2, none⟩ (.bool ps2)).setCell ⟨w.heap.size + 1, 3, none⟩ (.slice po2 pn2 pc2)).setCell ⟨w.heap.size + 1, 4, none⟩ (.bool ps3)).setCell ⟨w.heap.size + 1, 5, none⟩ (.slice po3 pn3 pc3)) s ao n cap ds z k := by
  have X0 : Blk W w.heap.size [.bool ps1, .slice po1 pn1 pc1, .bool ps2, .slice po2 pn2 pc2, .bool ps3, .slice po3 pn3 pc3] := T0.b 0 rfl
  have Y0 : Blk W (w.heap.size + 1) [.bool qs1, .slice qo1 qn1 qc1, .bool qs2, .slice qo2 qn2 qc2, .bool qs3, .slice qo3 qn3 qc3] := T0.b 1 rfl
  have Y1 := ((((((Y0.setO (p := ⟨w.heap.size, 0, none⟩) (by show w.heap.size + 1 ≠ w.heap.size; omega) (.bool qs1)).setO (p := ⟨w.heap.size, 1, none⟩) (by show w.heap.size + 1 ≠ w.heap.size; omega) (.slice qo1 qn1 qc1)).setO (p := ⟨w.heap.size, 2, none⟩) (by show w.heap.size + 1 ≠ w.heap.size; omega) (.bool qs2)).setO (p := ⟨w.heap.size, 3, none⟩) (by show w.heap.size + 1 ≠ w.heap.size; omega) (.slice qo2 qn2 qc2)).setO (p := ⟨w.heap.size, 4, none⟩) (by show w.heap.size + 1 ≠ w.heap.size; omega) (.bool qs3)).setO (p := ⟨w.heap.size, 5, none⟩) (by show w.heap.size + 1 ≠ w.heap.size; omega) (.slice qo3 qn3 qc3))
  exact num_set6g (num_set6g h X0 _ _ _ _ _ _) Y1 _ _ _ _ _ _
set_option maxRecDepth 100000 in
set_option maxHeartbeats 8000000 in
theorem l3Between_any (ps1 ps2 ps3 : Bool) (po1 po2 po3 : Option Addr) (pn1 pc1 pn2 pc2 pn3 pc3 : Nat) (qs1 qs2 qs3 : Bool) (qo1 qo2 qo3 : Option Addr) (qn1 qc1 qn2 qc2 qn3 qc3 : Nat) (rs1 rs2 rs3 : Bool) (ro1 ro2 ro3 : Option Addr) (rn1 rc1 rn2 rc2 rn3 rc3 : Nat) (pd1 pd2 pd3 qd1 qd2 qd3 rd1 rd2 rd3 : List Int) (x y z u v t a b c : Int) (k : Nat) (hk : k ≤ 1000) (w : World) (Np1 : IsNum w ps1 po1 pn1 pc1 pd1 x k) (Np2 : IsNum w ps2 po2 pn2 pc2 pd2 y k) (Np3 : IsNum w ps3 po3 pn3 pc3 pd3 z k) (Nq1 : IsNum w qs1 qo1 qn1 qc1 qd1 u k) (Nq2 : IsNum w qs2 qo2 qn2 qc2 qd2 v k) (Nq3 : IsNum w qs3 qo3 qn3 qc3 qd3 t k) (Nr1 : IsNum w rs1 ro1 rn1 rc1 rd1 a k) (Nr2 : IsNum w rs2 ro2 rn2 rc2 rd2 b k) (Nr3 : IsNum w rs3 ro3 rn3 rc3 rd3 c k) : Calls Try.prog 77 #[.agg #[.bool ps1, .slice po1 pn1 pc1, .bool ps2, .slice po2 pn2 pc2, .bool ps3, .slice po3 pn3 pc3], .agg #[.bool qs1, .slice qo1 qn1 qc1, .bool qs2, .slice qo2 qn2 qc2, .bool qs3, .slice qo3 qn3 qc3], .agg #[.bool rs1, .slice ro1 rn1 rc1, .bool rs2, .slice ro2 rn2 rc2, .bool rs3, .slice ro3 rn3 rc3]] w (VP (.bool (btwS x y z u v t a b c)) w) := by
  have T0 : ArgsB w (((w.alloc (.cells #[.bool ps1, .slice po1 pn1 pc1, .bool ps2, .slice po2 pn2 pc2, .bool ps3, .slice po3 pn3 pc3] 84)).alloc (.cells #[.bool qs1, .slice qo1 qn1 qc1, .bool qs2, .slice qo2 qn2 qc2, .bool qs3, .slice qo3 qn3 qc3] 84)).alloc (.cells #[.bool rs1, .slice ro1 rn1 rc1, .bool rs2, .slice ro2 rn2 rc2, .bool rs3, .slice ro3 rn3 rc3] 84)) [[.bool ps1, .slice po1 pn1 pc1, .bool ps2, .slice po2 pn2 pc2, .bool ps3, .slice po3 pn3 pc3], [.bool qs1, .slice qo1 qn1 qc1, .bool qs2, .slice qo2 qn2 qc2, .bool qs3, .slice qo3 qn3 qc3], [.bool rs1, .slice ro1 rn1 rc1, .bool rs2, .slice ro2 rn2 rc2, .bool rs3, .slice ro3 rn3 rc3]] := ar3 _ _ _ _ _ _ w
  replace Np1 := Np1.below T0.below
  replace Np2 := Np2.below T0.below
  replace Np3 := Np3.below T0.below
  replace Nq1 := Nq1.below T0.below
  replace Nq2 := Nq2.below T0.below
  replace Nq3 := Nq3.below T0.below
  replace Nr1 := Nr1.below T0.below
  replace Nr2 := Nr2.below T0.below
  replace Nr3 := Nr3.below T0.below
  go_enter Try.func77, Try.ntmps77
  go_wp2_with fail
  generalize (((w.alloc (.cells #[.bool ps1, .slice po1 pn1 pc1, .bool ps2, .slice po2 pn2 pc2, .bool ps3, .slice po3 pn3 pc3] 84)).alloc (.cells #[.bool qs1, .slice qo1 qn1 qc1, .bool qs2, .slice qo2 qn2 qc2, .bool qs3, .slice qo3 qn3 qc3] 84)).alloc (.cells #[.bool rs1, .slice ro1 rn1 rc1, .bool rs2, .slice ro2 rn2 rc2, .bool rs3, .slice ro3 rn3 rc3] 84)) = W at *
  refine (l3Cmp_any ps1 ps2 ps3 po1 po2 po3 pn1 pc1 pn2 pc2 pn3 pc3 qs1 qs2 qs3 qo1 qo2 qo3 qn1 qc1 qn2 qc2 qn3 qc3 pd1 pd2 pd3 qd1 qd2 qd3 x y z u v t k hk _ Np1 Np2 Np3 Nq1 Nq2 Nq3).mono ?_
  rintro e w1 ⟨rfl, hB⟩
  replace T0 := T0.step hB
  replace Np1 := Np1.below hB
  replace Np2 := Np2.below hB
  replace Np3 := Np3.below hB
  replace Nq1 := Nq1.below hB
  replace Nq2 := Nq2.below hB
  replace Nq3 := Nq3.below hB
  replace Nr1 := Nr1.below hB
  replace Nr2 := Nr2.below hB
  replace Nr3 := Nr3.below hB
  clear hB
  by_cases h1 : 0 < ordI x y z u v t
  · have d1 : decide (0 < ordI x y z u v t) = true := decide_eq_true h1
    have HC : (if 0 < ordI x y z u v t then decide (ordI u v t a b c ≤ 0) && decide (ordI a b c x y z ≤ 0) && decide (turnI u v t x y z a b c = 0) else decide (ordI x y z a b c ≤ 0) && decide (ordI a b c u v t ≤ 0) && decide (turnI x y z u v t a b c = 0)) = (decide (ordI u v t a b c ≤ 0) && decide (ordI a b c x y z ≤ 0) && decide (turnI u v t x y z a b c = 0)) := if_pos h1
    have X0 : Blk _ w.heap.size _ := T0.b 0 rfl
    have Y0 : Blk _ (w.heap.size + 1) _ := T0.b 1 rfl
    have p0 := X0.c 0 rfl; have pf0 := X0.f 0 rfl; have q0 := Y0.c 0 rfl; have qf0 := Y0.f 0 rfl; have p1 := X0.c 1 rfl; have pf1 := X0.f 1 rfl; have q1 := Y0.c 1 rfl; have qf1 := Y0.f 1 rfl; have p2 := X0.c 2 rfl; have pf2 := X0.f 2 rfl; have q2 := Y0.c 2 rfl; have qf2 := Y0.f 2 rfl; have p3 := X0.c 3 rfl; have pf3 := X0.f 3 rfl; have q3 := Y0.c 3 rfl; have qf3 := Y0.f 3 rfl; have p4 := X0.c 4 rfl; have pf4 := X0.f 4 rfl; have q4 := Y0.c 4 rfl; have qf4 := Y0.f 4 rfl; have p5 := X0.c 5 rfl; have pf5 := X0.f 5 rfl; have q5 := Y0.c 5 rfl; have qf5 := Y0.f 5 rfl
    have xl := X0.lt; have yl := Y0.lt
    go_upto_region 3 with fail
    clear p0 pf0 q0 qf0 p1 pf1 q1 qf1 p2 pf2 q2 qf2 p3 pf3 q3 qf3 p4 pf4 q4 qf4 p5 pf5 q5 qf5 xl yl X0 Y0
    replace Np1 := swap_num Np1 T0
    replace Np2 := swap_num Np2 T0
    replace Np3 := swap_num Np3 T0
    replace Nq1 := swap_num Nq1 T0
    replace Nq2 := swap_num Nq2 T0
    replace Nq3 := swap_num Nq3 T0
    replace Nr1 := swap_num Nr1 T0
    replace Nr2 := swap_num Nr2 T0
    replace Nr3 := swap_num Nr3 T0
    replace T0 := swap_args T0
    generalize ((((((((((((w1.setCell ⟨w.heap.size, 0, none⟩ (.bool qs1)).setCell ⟨w.heap.size, 1, none⟩ (.slice qo1 qn1 qc1)).setCell ⟨w.heap.size, 2, none⟩ (.bool qs2)).setCell ⟨w.heap.size, 3, none⟩ (.slice qo2 qn2 qc2)).setCell ⟨w.heap.size, 4, none⟩ (.bool qs3)).setCell ⟨w.heap.size, 5, none⟩ (.slice qo3 qn3 qc3)).setCell ⟨w.heap.size + 1, 0, none⟩ (.bool ps1)).setCell ⟨w.heap.size + 1, 1, none⟩ (.slice po1 pn1 pc1)).setCell ⟨w.heap.size + 1, 2, none⟩ (.bool ps2)).setCell ⟨w.heap.size + 1, 3, none⟩ (.slice po2 pn2 pc2)).setCell ⟨w.heap.size + 1, 4, none⟩ (.bool ps3)).setCell ⟨w.heap.size + 1, 5, none⟩ (.slice po3 pn3 pc3)) = W1 at *
    have X0 : Blk _ w.heap.size _ := T0.b 0 rfl; have Y0 : Blk _ (w.heap.size + 1) _ := T0.b 1 rfl; have Z0 : Blk _ (w.heap.size + 1 + 1) _ := T0.b 2 rfl; have p0 := X0.c 0 rfl; have q0 := Y0.c 0 rfl; have r0 := Z0.c 0 rfl; have p1 := X0.c 1 rfl; have q1 := Y0.c 1 rfl; have r1 := Z0.c 1 rfl; have p2 := X0.c 2 rfl; have q2 := Y0.c 2 rfl; have r2 := Z0.c 2 rfl; have p3 := X0.c 3 rfl; have q3 := Y0.c 3 rfl; have r3 := Z0.c 3 rfl; have p4 := X0.c 4 rfl; have q4 := Y0.c 4 rfl; have r4 := Z0.c 4 rfl; have p5 := X0.c 5 rfl; have q5 := Y0.c 5 rfl; have r5 := Z0.c 5 rfl; clear X0 Y0 Z0
    go_wp2_with fail
    refine (l3Cmp_any qs1 qs2 qs3 qo1 qo2 qo3 qn1 qc1 qn2 qc2 qn3 qc3 rs1 rs2 rs3 ro1 ro2 ro3 rn1 rc1 rn2 rc2 rn3 rc3 qd1 qd2 qd3 rd1 rd2 rd3 u v t a b c k hk _ Nq1 Nq2 Nq3 Nr1 Nr2 Nr3).mono ?_
    rintro e f1 ⟨rfl, hB⟩
    replace T0 := T0.step hB
    replace Np1 := Np1.below hB
    replace Np2 := Np2.below hB
    replace Np3 := Np3.below hB
    replace Nq1 := Nq1.below hB
    replace Nq2 := Nq2.below hB
    replace Nq3 := Nq3.below hB
    replace Nr1 := Nr1.below hB
    replace Nr2 := Nr2.below hB
    replace Nr3 := Nr3.below hB
    clear hB p0 q0 r0 p1 q1 r1 p2 q2 r2 p3 q3 r3 p4 q4 r4 p5 q5 r5
    by_cases h2 : ordI u v t a b c ≤ 0
    · have d2 : decide (ordI u v t a b c ≤ 0) = true := decide_eq_true h2
      have X0 : Blk _ w.heap.size _ := T0.b 0 rfl; have Y0 : Blk _ (w.heap.size + 1) _ := T0.b 1 rfl; have Z0 : Blk _ (w.heap.size + 1 + 1) _ := T0.b 2 rfl; have p0 := X0.c 0 rfl; have q0 := Y0.c 0 rfl; have r0 := Z0.c 0 rfl; have p1 := X0.c 1 rfl; have q1 := Y0.c 1 rfl; have r1 := Z0.c 1 rfl; have p2 := X0.c 2 rfl; have q2 := Y0.c 2 rfl; have r2 := Z0.c 2 rfl; have p3 := X0.c 3 rfl; have q3 := Y0.c 3 rfl; have r3 := Z0.c 3 rfl; have p4 := X0.c 4 rfl; have q4 := Y0.c 4 rfl; have r4 := Z0.c 4 rfl; have p5 := X0.c 5 rfl; have q5 := Y0.c 5 rfl; have r5 := Z0.c 5 rfl; clear X0 Y0 Z0
      go_wp2_with fail
      refine (l3Cmp_any rs1 rs2 rs3 ro1 ro2 ro3 rn1 rc1 rn2 rc2 rn3 rc3 ps1 ps2 ps3 po1 po2 po3 pn1 pc1 pn2 pc2 pn3 pc3 rd1 rd2 rd3 pd1 pd2 pd3 a b c x y z k hk _ Nr1 Nr2 Nr3 Np1 Np2 Np3).mono ?_
      rintro e f2 ⟨rfl, hB⟩
      replace T0 := T0.step hB
      replace Np1 := Np1.below hB
      replace Np2 := Np2.below hB
      replace Np3 := Np3.below hB
      replace Nq1 := Nq1.below hB
      replace Nq2 := Nq2.below hB
      replace Nq3 := Nq3.below hB
      replace Nr1 := Nr1.below hB
      replace Nr2 := Nr2.below hB
      replace Nr3 := Nr3.below hB
      clear hB p0 q0 r0 p1 q1 r1 p2 q2 r2 p3 q3 r3 p4 q4 r4 p5 q5 r5
      by_cases h3 : ordI a b c x y z ≤ 0
      · have d3 : decide (ordI a b c x y z ≤ 0) = true := decide_eq_true h3
        have X0 : Blk _ w.heap.size _ := T0.b 0 rfl; have Y0 : Blk _ (w.heap.size + 1) _ := T0.b 1 rfl; have Z0 : Blk _ (w.heap.size + 1 + 1) _ := T0.b 2 rfl; have p0 := X0.c 0 rfl; have q0 := Y0.c 0 rfl; have r0 := Z0.c 0 rfl; have p1 := X0.c 1 rfl; have q1 := Y0.c 1 rfl; have r1 := Z0.c 1 rfl; have p2 := X0.c 2 rfl; have q2 := Y0.c 2 rfl; have r2 := Z0.c 2 rfl; have p3 := X0.c 3 rfl; have q3 := Y0.c 3 rfl; have r3 := Z0.c 3 rfl; have p4 := X0.c 4 rfl; have q4 := Y0.c 4 rfl; have r4 := Z0.c 4 rfl; have p5 := X0.c 5 rfl; have q5 := Y0.c 5 rfl; have r5 := Z0.c 5 rfl; clear X0 Y0 Z0
        go_wp2_with fail
        refine (l3Orient_any qs1 qs2 qs3 qo1 qo2 qo3 qn1 qc1 qn2 qc2 qn3 qc3 ps1 ps2 ps3 po1 po2 po3 pn1 pc1 pn2 pc2 pn3 pc3 rs1 rs2 rs3 ro1 ro2 ro3 rn1 rc1 rn2 rc2 rn3 rc3 qd1 qd2 qd3 pd1 pd2 pd3 rd1 rd2 rd3 u v t x y z a b c k hk _ Nq1 Nq2 Nq3 Np1 Np2 Np3 Nr1 Nr2 Nr3).mono ?_
        rintro e f3 ⟨rfl, hB⟩
        have HB := (T0.step hB).below
        have HR : Hid (btwS x y z u v t a b c = (turnI u v t x y z a b c == 0)) := by
          show _ = _
          unfold btwS
          rw [HC]
          simp only [h2, h3, decide_true, Bool.true_and]
          rw [Bool.eq_iff_iff, decide_eq_true_iff, beq_iff_eq]
        clear hB T0 p0 q0 r0 p1 q1 r1 p2 q2 r2 p3 q3 r3 p4 q4 r4 p5 q5 r5 Np1 Np2 Np3 Nq1 Nq2 Nq3 Nr1 Nr2 Nr3 HC h2 h3
        go_wp2
        go_ret
        exact ⟨by rw [HR.out]; rfl, HB⟩
      · have d3 : decide (ordI a b c x y z ≤ 0) = false := decide_eq_false h3
        have HR : Hid (btwS x y z u v t a b c = false) := by show _ = _; unfold btwS; rw [HC]; simp [h3]
        have HB := T0.below
        clear T0 Np1 Np2 Np3 Nq1 Nq2 Nq3 Nr1 Nr2 Nr3 HC h2 h3
        go_wp2
        go_ret
        exact ⟨by rw [HR.out]; rfl, HB⟩
    · have d2 : decide (ordI u v t a b c ≤ 0) = false := decide_eq_false h2
      have HR : Hid (btwS x y z u v t a b c = false) := by show _ = _; unfold btwS; rw [HC]; simp [h2]
      have HB := T0.below
      clear T0 Np1 Np2 Np3 Nq1 Nq2 Nq3 Nr1 Nr2 Nr3 HC h2
      go_wp2
      go_ret
      exact ⟨by rw [HR.out]; rfl, HB⟩
  · have d1 : decide (0 < ordI x y z u v t) = false := decide_eq_false h1
    have HC : (if 0 < ordI x y z u v t then decide (ordI u v t a b c ≤ 0) && decide (ordI a b c x y z ≤ 0) && decide (turnI u v t x y z a b c = 0) else decide (ordI x y z a b c ≤ 0) && decide (ordI a b c u v t ≤ 0) && decide (turnI x y z u v t a b c = 0)) = (decide (ordI x y z a b c ≤ 0) && decide (ordI a b c u v t ≤ 0) && decide (turnI x y z u v t a b c = 0)) := if_neg h1
    have X0 : Blk _ w.heap.size _ := T0.b 0 rfl; have Y0 : Blk _ (w.heap.size + 1) _ := T0.b 1 rfl; have Z0 : Blk _ (w.heap.size + 1 + 1) _ := T0.b 2 rfl; have p0 := X0.c 0 rfl; have q0 := Y0.c 0 rfl; have r0 := Z0.c 0 rfl; have p1 := X0.c 1 rfl; have q1 := Y0.c 1 rfl; have r1 := Z0.c 1 rfl; have p2 := X0.c 2 rfl; have q2 := Y0.c 2 rfl; have r2 := Z0.c 2 rfl; have p3 := X0.c 3 rfl; have q3 := Y0.c 3 rfl; have r3 := Z0.c 3 rfl; have p4 := X0.c 4 rfl; have q4 := Y0.c 4 rfl; have r4 := Z0.c 4 rfl; have p5 := X0.c 5 rfl; have q5 := Y0.c 5 rfl; have r5 := Z0.c 5 rfl; clear X0 Y0 Z0
    go_wp2_with fail
    refine (l3Cmp_any ps1 ps2 ps3 po1 po2 po3 pn1 pc1 pn2 pc2 pn3 pc3 rs1 rs2 rs3 ro1 ro2 ro3 rn1 rc1 rn2 rc2 rn3 rc3 pd1 pd2 pd3 rd1 rd2 rd3 x y z a b c k hk _ Np1 Np2 Np3 Nr1 Nr2 Nr3).mono ?_
    rintro e f1 ⟨rfl, hB⟩
    replace T0 := T0.step hB
    replace Np1 := Np1.below hB
    replace Np2 := Np2.below hB
    replace Np3 := Np3.below hB
    replace Nq1 := Nq1.below hB
    replace Nq2 := Nq2.below hB
    replace Nq3 := Nq3.below hB
    replace Nr1 := Nr1.below hB
    replace Nr2 := Nr2.below hB
    replace Nr3 := Nr3.below hB
    clear hB p0 q0 r0 p1 q1 r1 p2 q2 r2 p3 q3 r3 p4 q4 r4 p5 q5 r5
    by_cases h2 : ordI x y z a b c ≤ 0
    · have d2 : decide (ordI x y z a b c ≤ 0) = true := decide_eq_true h2
      have X0 : Blk _ w.heap.size _ := T0.b 0 rfl; have Y0 : Blk _ (w.heap.size + 1) _ := T0.b 1 rfl; have Z0 : Blk _ (w.heap.size + 1 + 1) _ := T0.b 2 rfl; have p0 := X0.c 0 rfl; have q0 := Y0.c 0 rfl; have r0 := Z0.c 0 rfl; have p1 := X0.c 1 rfl; have q1 := Y0.c 1 rfl; have r1 := Z0.c 1 rfl; have p2 := X0.c 2 rfl; have q2 := Y0.c 2 rfl; have r2 := Z0.c 2 rfl; have p3 := X0.c 3 rfl; have q3 := Y0.c 3 rfl; have r3 := Z0.c 3 rfl; have p4 := X0.c 4 rfl; have q4 := Y0.c 4 rfl; have r4 := Z0.c 4 rfl; have p5 := X0.c 5 rfl; have q5 := Y0.c 5 rfl; have r5 := Z0.c 5 rfl; clear X0 Y0 Z0
      go_wp2_with fail
      refine (l3Cmp_any rs1 rs2 rs3 ro1 ro2 ro3 rn1 rc1 rn2 rc2 rn3 rc3 qs1 qs2 qs3 qo1 qo2 qo3 qn1 qc1 qn2 qc2 qn3 qc3 rd1 rd2 rd3 qd1 qd2 qd3 a b c u v t k hk _ Nr1 Nr2 Nr3 Nq1 Nq2 Nq3).mono ?_
      rintro e f2 ⟨rfl, hB⟩
      replace T0 := T0.step hB
      replace Np1 := Np1.below hB
      replace Np2 := Np2.below hB
      replace Np3 := Np3.below hB
      replace Nq1 := Nq1.below hB
      replace Nq2 := Nq2.below hB
      replace Nq3 := Nq3.below hB
      replace Nr1 := Nr1.below hB
      replace Nr2 := Nr2.below hB
      replace Nr3 := Nr3.below hB
      clear hB p0 q0 r0 p1 q1 r1 p2 q2 r2 p3 q3 r3 p4 q4 r4 p5 q5 r5
      by_cases h3 : ordI a b c u v t ≤ 0
      · have d3 : decide (ordI a b c u v t ≤ 0) = true := decide_eq_true h3
        have X0 : Blk _ w.heap.size _ := T0.b 0 rfl; have Y0 : Blk _ (w.heap.size + 1) _ := T0.b 1 rfl; have Z0 : Blk _ (w.heap.size + 1 + 1) _ := T0.b 2 rfl; have p0 := X0.c 0 rfl; have q0 := Y0.c 0 rfl; have r0 := Z0.c 0 rfl; have p1 := X0.c 1 rfl; have q1 := Y0.c 1 rfl; have r1 := Z0.c 1 rfl; have p2 := X0.c 2 rfl; have q2 := Y0.c 2 rfl; have r2 := Z0.c 2 rfl; have p3 := X0.c 3 rfl; have q3 := Y0.c 3 rfl; have r3 := Z0.c 3 rfl; have p4 := X0.c 4 rfl; have q4 := Y0.c 4 rfl; have r4 := Z0.c 4 rfl; have p5 := X0.c 5 rfl; have q5 := Y0.c 5 rfl; have r5 := Z0.c 5 rfl; clear X0 Y0 Z0
        go_wp2_with fail
        refine (l3Orient_any ps1 ps2 ps3 po1 po2 po3 pn1 pc1 pn2 pc2 pn3 pc3 qs1 qs2 qs3 qo1 qo2 qo3 qn1 qc1 qn2 qc2 qn3 qc3 rs1 rs2 rs3 ro1 ro2 ro3 rn1 rc1 rn2 rc2 rn3 rc3 pd1 pd2 pd3 qd1 qd2 qd3 rd1 rd2 rd3 x y z u v t a b c k hk _ Np1 Np2 Np3 Nq1 Nq2 Nq3 Nr1 Nr2 Nr3).mono ?_
        rintro e f3 ⟨rfl, hB⟩
        have HB := (T0.step hB).below
        have HR : Hid (btwS x y z u v t a b c = (turnI x y z u v t a b c == 0)) := by
          show _ = _
          unfold btwS
          rw [HC]
          simp only [h2, h3, decide_true, Bool.true_and]
          rw [Bool.eq_iff_iff, decide_eq_true_iff, beq_iff_eq]
        clear hB T0 p0 q0 r0 p1 q1 r1 p2 q2 r2 p3 q3 r3 p4 q4 r4 p5 q5 r5 Np1 Np2 Np3 Nq1 Nq2 Nq3 Nr1 Nr2 Nr3 HC h2 h3
        go_wp2
        go_ret
        exact ⟨by rw [HR.out]; rfl, HB⟩
      · have d3 : decide (ordI a b c u v t ≤ 0) = false := decide_eq_false h3
        have HR : Hid (btwS x y z u v t a b c = false) := by show _ = _; unfold btwS; rw [HC]; simp [h3]
        have HB := T0.below
        clear T0 Np1 Np2 Np3 Nq1 Nq2 Nq3 Nr1 Nr2 Nr3 HC h2 h3
        go_wp2
        go_ret
        exact ⟨by rw [HR.out]; rfl, HB⟩
    · have d2 : decide (ordI x y z a b c ≤ 0) = false := decide_eq_false h2
      have HR : Hid (btwS x y z u v t a b c = false) := by show _ = _; unfold btwS; rw [HC]; simp [h2]
      have HB := T0.below
      clear T0 Np1 Np2 Np3 Nq1 Nq2 Nq3 Nr1 Nr2 Nr3 HC h2
      go_wp2
      go_ret
      exact ⟨by rw [HR.out]; rfl, HB⟩
end Go.Proofs.Ytckbhihdhcgaeaa
