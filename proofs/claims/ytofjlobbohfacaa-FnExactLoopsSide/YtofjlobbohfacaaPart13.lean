/- Part 13 of the walks that the proof leans on. -/
import Derived.Test.YtofjlobbohfacaaPart12
import Derived.Test.YtofjlobbohfacaaPart11
import Derived.Test.YtofjlobbohfacaaRows
import Derived.ProofKit
import Derived.Lib.SmallJoins
/- Whether a way to the right crosses a line: the model's walk. -/
namespace Go.Proofs.Ytofjlobbohfacaa
open Go.RowKit
set_option maxRecDepth 100000 in
set_option maxHeartbeats 8000000 in
theorem l5Cuts_any (ps1 ps2 ps3 : Bool) (po1 po2 po3 : Option Addr) (pn1 pc1 pn2 pc2 pn3 pc3 : Nat) (qs1 qs2 qs3 : Bool) (qo1 qo2 qo3 : Option Addr) (qn1 qc1 qn2 qc2 qn3 qc3 : Nat) (rs1 rs2 rs3 : Bool) (ro1 ro2 ro3 : Option Addr) (rn1 rc1 rn2 rc2 rn3 rc3 : Nat) (pd1 pd2 pd3 qd1 qd2 qd3 rd1 rd2 rd3 : List Int) (x y z u v t a b c : Int) (k : Nat) (hk : k ≤ 1000) (w : World) (Np1 : IsNum w ps1 po1 pn1 pc1 pd1 x k) (Np2 : IsNum w ps2 po2 pn2 pc2 pd2 y k) (Np3 : IsNum w ps3 po3 pn3 pc3 pd3 z k) (Nq1 : IsNum w qs1 qo1 qn1 qc1 qd1 u k) (Nq2 : IsNum w qs2 qo2 qn2 qc2 qd2 v k) (Nq3 : IsNum w qs3 qo3 qn3 qc3 qd3 t k) (Nr1 : IsNum w rs1 ro1 rn1 rc1 rd1 a k) (Nr2 : IsNum w rs2 ro2 rn2 rc2 rd2 b k) (Nr3 : IsNum w rs3 ro3 rn3 rc3 rd3 c k) : Calls Try.prog 27 #[.agg #[.bool ps1, .slice po1 pn1 pc1, .bool ps2, .slice po2 pn2 pc2, .bool ps3, .slice po3 pn3 pc3], .agg #[.bool qs1, .slice qo1 qn1 qc1, .bool qs2, .slice qo2 qn2 qc2, .bool qs3, .slice qo3 qn3 qc3], .agg #[.bool rs1, .slice ro1 rn1 rc1, .bool rs2, .slice ro2 rn2 rc2, .bool rs3, .slice ro3 rn3 rc3]] w (VP (.bool (ctB x y z u v t a b c)) w) := by
  have T0 : ArgsB w (((w.alloc (.cells #[.bool ps1, .slice po1 pn1 pc1, .bool ps2, .slice po2 pn2 pc2, .bool ps3, .slice po3 pn3 pc3] 64)).alloc (.cells #[.bool qs1, .slice qo1 qn1 qc1, .bool qs2, .slice qo2 qn2 qc2, .bool qs3, .slice qo3 qn3 qc3] 64)).alloc (.cells #[.bool rs1, .slice ro1 rn1 rc1, .bool rs2, .slice ro2 rn2 rc2, .bool rs3, .slice ro3 rn3 rc3] 64)) [[.bool ps1, .slice po1 pn1 pc1, .bool ps2, .slice po2 pn2 pc2, .bool ps3, .slice po3 pn3 pc3], [.bool qs1, .slice qo1 qn1 qc1, .bool qs2, .slice qo2 qn2 qc2, .bool qs3, .slice qo3 qn3 qc3], [.bool rs1, .slice ro1 rn1 rc1, .bool rs2, .slice ro2 rn2 rc2, .bool rs3, .slice ro3 rn3 rc3]] := ar3 _ _ _ _ _ _ w
  replace Np1 := Np1.below T0.below
  replace Np2 := Np2.below T0.below
  replace Np3 := Np3.below T0.below
  replace Nq1 := Nq1.below T0.below
  replace Nq2 := Nq2.below T0.below
  replace Nq3 := Nq3.below T0.below
  replace Nr1 := Nr1.below T0.below
  replace Nr2 := Nr2.below T0.below
  replace Nr3 := Nr3.below T0.below
  go_enter Try.func27, Try.ntmps27
  go_wp2_with fail
  generalize (((w.alloc (.cells #[.bool ps1, .slice po1 pn1 pc1, .bool ps2, .slice po2 pn2 pc2, .bool ps3, .slice po3 pn3 pc3] 64)).alloc (.cells #[.bool qs1, .slice qo1 qn1 qc1, .bool qs2, .slice qo2 qn2 qc2, .bool qs3, .slice qo3 qn3 qc3] 64)).alloc (.cells #[.bool rs1, .slice ro1 rn1 rc1, .bool rs2, .slice ro2 rn2 rc2, .bool rs3, .slice ro3 rn3 rc3] 64)) = W at *
  refine (l3CmpY_any qs1 qs2 qs3 qo1 qo2 qo3 qn1 qc1 qn2 qc2 qn3 qc3 ps1 ps2 ps3 po1 po2 po3 pn1 pc1 pn2 pc2 pn3 pc3 qd2 qd3 pd2 pd3 v t y z k hk _ Nq2 Nq3 Np2 Np3).mono ?_
  rintro e w1 ⟨rfl, hB⟩
  replace T0 := T0.step hB
  replace Np1 := Np1.below hB
  replace Np2 := Np2.below hB
  replace Np3 := Np3.below hB
  replace Nq1 := Nq1.below hB
  replace Nq2 := Nq2.below hB
  replace Nq3 := Nq3.below hB
  replace Nr1 := Nr1.below hB
  replace Nr2 := Nr2.below hB
  replace Nr3 := Nr3.below hB
  clear hB
  by_cases h1 : cmpI (v * z) (y * t) < 0
  · have d1 : decide (cmpI (v * z) (y * t) < 0) = true := decide_eq_true h1
    have HC : (if cmpI (v * z) (y * t) < 0 then decide (cmpI (v * c) (b * t) ≤ 0) && decide (cmpI (b * z) (y * c) < 0) && decide (0 < turnI u v t x y z a b c) else decide (cmpI (y * c) (b * z) ≤ 0) && decide (cmpI (b * t) (v * c) < 0) && decide (0 < turnI x y z u v t a b c)) = (decide (cmpI (v * c) (b * t) ≤ 0) && decide (cmpI (b * z) (y * c) < 0) && decide (0 < turnI u v t x y z a b c)) := if_pos h1
    have X0 : Blk _ w.heap.size _ := T0.b 0 rfl
    have Y0 : Blk _ (w.heap.size + 1) _ := T0.b 1 rfl
    have p0 := X0.c 0 rfl; have pf0 := X0.f 0 rfl; have q0 := Y0.c 0 rfl; have qf0 := Y0.f 0 rfl; have p1 := X0.c 1 rfl; have pf1 := X0.f 1 rfl; have q1 := Y0.c 1 rfl; have qf1 := Y0.f 1 rfl; have p2 := X0.c 2 rfl; have pf2 := X0.f 2 rfl; have q2 := Y0.c 2 rfl; have qf2 := Y0.f 2 rfl; have p3 := X0.c 3 rfl; have pf3 := X0.f 3 rfl; have q3 := Y0.c 3 rfl; have qf3 := Y0.f 3 rfl; have p4 := X0.c 4 rfl; have pf4 := X0.f 4 rfl; have q4 := Y0.c 4 rfl; have qf4 := Y0.f 4 rfl; have p5 := X0.c 5 rfl; have pf5 := X0.f 5 rfl; have q5 := Y0.c 5 rfl; have qf5 := Y0.f 5 rfl
    have xl := X0.lt; have yl := Y0.lt
    go_upto_region 3 with fail
    clear p0 pf0 q0 qf0 p1 pf1 q1 qf1 p2 pf2 q2 qf2 p3 pf3 q3 qf3 p4 pf4 q4 qf4 p5 pf5 q5 qf5 xl yl X0 Y0
    replace Np1 := swap_num Np1 T0
    replace Np2 := swap_num Np2 T0
    replace Np3 := swap_num Np3 T0
    replace Nq1 := swap_num Nq1 T0
    replace Nq2 := swap_num Nq2 T0
    replace Nq3 := swap_num Nq3 T0
    replace Nr1 := swap_num Nr1 T0
    replace Nr2 := swap_num Nr2 T0
    replace Nr3 := swap_num Nr3 T0
    replace T0 := swap_args T0
    generalize ((((((((((((w1.setCell ⟨w.heap.size, 0, none⟩ (.bool qs1)).setCell ⟨w.heap.size, 1, none⟩ (.slice qo1 qn1 qc1)).setCell ⟨w.heap.size, 2, none⟩ (.bool qs2)).setCell ⟨w.heap.size, 3, none⟩ (.slice qo2 qn2 qc2)).setCell ⟨w.heap.size, 4, none⟩ (.bool qs3)).setCell ⟨w.heap.size, 5, none⟩ (.slice qo3 qn3 qc3)).setCell ⟨w.heap.size + 1, 0, none⟩ (.bool ps1)).setCell ⟨w.heap.size + 1, 1, none⟩ (.slice po1 pn1 pc1)).setCell ⟨w.heap.size + 1, 2, none⟩ (.bool ps2)).setCell ⟨w.heap.size + 1, 3, none⟩ (.slice po2 pn2 pc2)).setCell ⟨w.heap.size + 1, 4, none⟩ (.bool ps3)).setCell ⟨w.heap.size + 1, 5, none⟩ (.slice po3 pn3 pc3)) = W1 at *
    have X0 : Blk _ w.heap.size _ := T0.b 0 rfl; have Y0 : Blk _ (w.heap.size + 1) _ := T0.b 1 rfl; have Z0 : Blk _ (w.heap.size + 1 + 1) _ := T0.b 2 rfl; have p0 := X0.c 0 rfl; have q0 := Y0.c 0 rfl; have r0 := Z0.c 0 rfl; have p1 := X0.c 1 rfl; have q1 := Y0.c 1 rfl; have r1 := Z0.c 1 rfl; have p2 := X0.c 2 rfl; have q2 := Y0.c 2 rfl; have r2 := Z0.c 2 rfl; have p3 := X0.c 3 rfl; have q3 := Y0.c 3 rfl; have r3 := Z0.c 3 rfl; have p4 := X0.c 4 rfl; have q4 := Y0.c 4 rfl; have r4 := Z0.c 4 rfl; have p5 := X0.c 5 rfl; have q5 := Y0.c 5 rfl; have r5 := Z0.c 5 rfl; clear X0 Y0 Z0
    go_wp2_with fail
    refine (l3CmpY_any qs1 qs2 qs3 qo1 qo2 qo3 qn1 qc1 qn2 qc2 qn3 qc3 rs1 rs2 rs3 ro1 ro2 ro3 rn1 rc1 rn2 rc2 rn3 rc3 qd2 qd3 rd2 rd3 v t b c k hk _ Nq2 Nq3 Nr2 Nr3).mono ?_
    rintro e f1 ⟨rfl, hB⟩
    replace T0 := T0.step hB
    replace Np1 := Np1.below hB
    replace Np2 := Np2.below hB
    replace Np3 := Np3.below hB
    replace Nq1 := Nq1.below hB
    replace Nq2 := Nq2.below hB
    replace Nq3 := Nq3.below hB
    replace Nr1 := Nr1.below hB
    replace Nr2 := Nr2.below hB
    replace Nr3 := Nr3.below hB
    clear hB p0 q0 r0 p1 q1 r1 p2 q2 r2 p3 q3 r3 p4 q4 r4 p5 q5 r5
    by_cases h2 : cmpI (v * c) (b * t) ≤ 0
    · have d2 : decide (cmpI (v * c) (b * t) ≤ 0) = true := decide_eq_true h2
      have X0 : Blk _ w.heap.size _ := T0.b 0 rfl; have Y0 : Blk _ (w.heap.size + 1) _ := T0.b 1 rfl; have Z0 : Blk _ (w.heap.size + 1 + 1) _ := T0.b 2 rfl; have p0 := X0.c 0 rfl; have q0 := Y0.c 0 rfl; have r0 := Z0.c 0 rfl; have p1 := X0.c 1 rfl; have q1 := Y0.c 1 rfl; have r1 := Z0.c 1 rfl; have p2 := X0.c 2 rfl; have q2 := Y0.c 2 rfl; have r2 := Z0.c 2 rfl; have p3 := X0.c 3 rfl; have q3 := Y0.c 3 rfl; have r3 := Z0.c 3 rfl; have p4 := X0.c 4 rfl; have q4 := Y0.c 4 rfl; have r4 := Z0.c 4 rfl; have p5 := X0.c 5 rfl; have q5 := Y0.c 5 rfl; have r5 := Z0.c 5 rfl; clear X0 Y0 Z0
      go_wp2_with fail
      refine (l3CmpY_any rs1 rs2 rs3 ro1 ro2 ro3 rn1 rc1 rn2 rc2 rn3 rc3 ps1 ps2 ps3 po1 po2 po3 pn1 pc1 pn2 pc2 pn3 pc3 rd2 rd3 pd2 pd3 b c y z k hk _ Nr2 Nr3 Np2 Np3).mono ?_
      rintro e f2 ⟨rfl, hB⟩
      replace T0 := T0.step hB
      replace Np1 := Np1.below hB
      replace Np2 := Np2.below hB
      replace Np3 := Np3.below hB
      replace Nq1 := Nq1.below hB
      replace Nq2 := Nq2.below hB
      replace Nq3 := Nq3.below hB
      replace Nr1 := Nr1.below hB
      replace Nr2 := Nr2.below hB
      replace Nr3 := Nr3.below hB
      clear hB p0 q0 r0 p1 q1 r1 p2 q2 r2 p3 q3 r3 p4 q4 r4 p5 q5 r5
      by_cases h3 : cmpI (b * z) (y * c) < 0
      · have d3 : decide (cmpI (b * z) (y * c) < 0) = true := decide_eq_true h3
        have X0 : Blk _ w.heap.size _ := T0.b 0 rfl; have Y0 : Blk _ (w.heap.size + 1) _ := T0.b 1 rfl; have Z0 : Blk _ (w.heap.size + 1 + 1) _ := T0.b 2 rfl; have p0 := X0.c 0 rfl; have q0 := Y0.c 0 rfl; have r0 := Z0.c 0 rfl; have p1 := X0.c 1 rfl; have q1 := Y0.c 1 rfl; have r1 := Z0.c 1 rfl; have p2 := X0.c 2 rfl; have q2 := Y0.c 2 rfl; have r2 := Z0.c 2 rfl; have p3 := X0.c 3 rfl; have q3 := Y0.c 3 rfl; have r3 := Z0.c 3 rfl; have p4 := X0.c 4 rfl; have q4 := Y0.c 4 rfl; have r4 := Z0.c 4 rfl; have p5 := X0.c 5 rfl; have q5 := Y0.c 5 rfl; have r5 := Z0.c 5 rfl; clear X0 Y0 Z0
        go_wp2_with fail
        refine (l3Orient_any qs1 qs2 qs3 qo1 qo2 qo3 qn1 qc1 qn2 qc2 qn3 qc3 ps1 ps2 ps3 po1 po2 po3 pn1 pc1 pn2 pc2 pn3 pc3 rs1 rs2 rs3 ro1 ro2 ro3 rn1 rc1 rn2 rc2 rn3 rc3 qd1 qd2 qd3 pd1 pd2 pd3 rd1 rd2 rd3 u v t x y z a b c k hk _ Nq1 Nq2 Nq3 Np1 Np2 Np3 Nr1 Nr2 Nr3).mono ?_
        rintro e f3 ⟨rfl, hB⟩
        have HB := (T0.step hB).below
        have HR : Hid (ctB x y z u v t a b c = decide (0 < turnI u v t x y z a b c)) := by
          show _ = _
          unfold ctB
          rw [HC]
          simp only [h2, h3, decide_true, Bool.true_and]
        clear hB T0 p0 q0 r0 p1 q1 r1 p2 q2 r2 p3 q3 r3 p4 q4 r4 p5 q5 r5 Np1 Np2 Np3 Nq1 Nq2 Nq3 Nr1 Nr2 Nr3 HC h2 h3
        go_wp2
        go_ret
        exact ⟨by rw [HR.out]; rfl, HB⟩
      · have d3 : decide (cmpI (b * z) (y * c) < 0) = false := decide_eq_false h3
        have HR : Hid (ctB x y z u v t a b c = false) := by show _ = _; unfold ctB; rw [HC]; simp [h3]
        have HB := T0.below
        clear T0 Np1 Np2 Np3 Nq1 Nq2 Nq3 Nr1 Nr2 Nr3 HC h2 h3
        go_wp2
        go_ret
        exact ⟨by rw [HR.out]; rfl, HB⟩
    · have d2 : decide (cmpI (v * c) (b * t) ≤ 0) = false := decide_eq_false h2
      have HR : Hid (ctB x y z u v t a b c = false) := by show _ = _; unfold ctB; rw [HC]; simp [h2]
      have HB := T0.below
      clear T0 Np1 Np2 Np3 Nq1 Nq2 Nq3 Nr1 Nr2 Nr3 HC h2
      go_wp2
      go_ret
      exact ⟨by rw [HR.out]; rfl, HB⟩
  · have d1 : decide (cmpI (v * z) (y * t) < 0) = false := decide_eq_false h1
    have HC : (if cmpI (v * z) (y * t) < 0 then decide (cmpI (v * c) (b * t) ≤ 0) && decide (cmpI (b * z) (y * c) < 0) && decide (0 < turnI u v t x y z a b c) else decide (cmpI (y * c) (b * z) ≤ 0) && decide (cmpI (b * t) (v * c) < 0) && decide (0 < turnI x y z u v t a b c)) = (decide (cmpI (y * c) (b * z) ≤ 0) && decide (cmpI (b * t) (v * c) < 0) && decide (0 < turnI x y z u v t a b c)) := if_neg h1
    have X0 : Blk _ w.heap.size _ := T0.b 0 rfl; have Y0 : Blk _ (w.heap.size + 1) _ := T0.b 1 rfl; have Z0 : Blk _ (w.heap.size + 1 + 1) _ := T0.b 2 rfl; have p0 := X0.c 0 rfl; have q0 := Y0.c 0 rfl; have r0 := Z0.c 0 rfl; have p1 := X0.c 1 rfl; have q1 := Y0.c 1 rfl; have r1 := Z0.c 1 rfl; have p2 := X0.c 2 rfl; have q2 := Y0.c 2 rfl; have r2 := Z0.c 2 rfl; have p3 := X0.c 3 rfl; have q3 := Y0.c 3 rfl; have r3 := Z0.c 3 rfl; have p4 := X0.c 4 rfl; have q4 := Y0.c 4 rfl; have r4 := Z0.c 4 rfl; have p5 := X0.c 5 rfl; have q5 := Y0.c 5 rfl; have r5 := Z0.c 5 rfl; clear X0 Y0 Z0
    go_wp2_with fail
    refine (l3CmpY_any ps1 ps2 ps3 po1 po2 po3 pn1 pc1 pn2 pc2 pn3 pc3 rs1 rs2 rs3 ro1 ro2 ro3 rn1 rc1 rn2 rc2 rn3 rc3 pd2 pd3 rd2 rd3 y z b c k hk _ Np2 Np3 Nr2 Nr3).mono ?_
    rintro e f1 ⟨rfl, hB⟩
    replace T0 := T0.step hB
    replace Np1 := Np1.below hB
    replace Np2 := Np2.below hB
    replace Np3 := Np3.below hB
    replace Nq1 := Nq1.below hB
    replace Nq2 := Nq2.below hB
    replace Nq3 := Nq3.below hB
    replace Nr1 := Nr1.below hB
    replace Nr2 := Nr2.below hB
    replace Nr3 := Nr3.below hB
    clear hB p0 q0 r0 p1 q1 r1 p2 q2 r2 p3 q3 r3 p4 q4 r4 p5 q5 r5
    by_cases h2 : cmpI (y * c) (b * z) ≤ 0
    · have d2 : decide (cmpI (y * c) (b * z) ≤ 0) = true := decide_eq_true h2
      have X0 : Blk _ w.heap.size _ := T0.b 0 rfl; have Y0 : Blk _ (w.heap.size + 1) _ := T0.b 1 rfl; have Z0 : Blk _ (w.heap.size + 1 + 1) _ := T0.b 2 rfl; have p0 := X0.c 0 rfl; have q0 := Y0.c 0 rfl; have r0 := Z0.c 0 rfl; have p1 := X0.c 1 rfl; have q1 := Y0.c 1 rfl; have r1 := Z0.c 1 rfl; have p2 := X0.c 2 rfl; have q2 := Y0.c 2 rfl; have r2 := Z0.c 2 rfl; have p3 := X0.c 3 rfl; have q3 := Y0.c 3 rfl; have r3 := Z0.c 3 rfl; have p4 := X0.c 4 rfl; have q4 := Y0.c 4 rfl; have r4 := Z0.c 4 rfl; have p5 := X0.c 5 rfl; have q5 := Y0.c 5 rfl; have r5 := Z0.c 5 rfl; clear X0 Y0 Z0
      go_wp2_with fail
      refine (l3CmpY_any rs1 rs2 rs3 ro1 ro2 ro3 rn1 rc1 rn2 rc2 rn3 rc3 qs1 qs2 qs3 qo1 qo2 qo3 qn1 qc1 qn2 qc2 qn3 qc3 rd2 rd3 qd2 qd3 b c v t k hk _ Nr2 Nr3 Nq2 Nq3).mono ?_
      rintro e f2 ⟨rfl, hB⟩
      replace T0 := T0.step hB
      replace Np1 := Np1.below hB
      replace Np2 := Np2.below hB
      replace Np3 := Np3.below hB
      replace Nq1 := Nq1.below hB
      replace Nq2 := Nq2.below hB
      replace Nq3 := Nq3.below hB
      replace Nr1 := Nr1.below hB
      replace Nr2 := Nr2.below hB
      replace Nr3 := Nr3.below hB
      clear hB p0 q0 r0 p1 q1 r1 p2 q2 r2 p3 q3 r3 p4 q4 r4 p5 q5 r5
      by_cases h3 : cmpI (b * t) (v * c) < 0
      · have d3 : decide (cmpI (b * t) (v * c) < 0) = true := decide_eq_true h3
        have X0 : Blk _ w.heap.size _ := T0.b 0 rfl; have Y0 : Blk _ (w.heap.size + 1) _ := T0.b 1 rfl; have Z0 : Blk _ (w.heap.size + 1 + 1) _ := T0.b 2 rfl; have p0 := X0.c 0 rfl; have q0 := Y0.c 0 rfl; have r0 := Z0.c 0 rfl; have p1 := X0.c 1 rfl; have q1 := Y0.c 1 rfl; have r1 := Z0.c 1 rfl; have p2 := X0.c 2 rfl; have q2 := Y0.c 2 rfl; have r2 := Z0.c 2 rfl; have p3 := X0.c 3 rfl; have q3 := Y0.c 3 rfl; have r3 := Z0.c 3 rfl; have p4 := X0.c 4 rfl; have q4 := Y0.c 4 rfl; have r4 := Z0.c 4 rfl; have p5 := X0.c 5 rfl; have q5 := Y0.c 5 rfl; have r5 := Z0.c 5 rfl; clear X0 Y0 Z0
        go_wp2_with fail
        refine (l3Orient_any ps1 ps2 ps3 po1 po2 po3 pn1 pc1 pn2 pc2 pn3 pc3 qs1 qs2 qs3 qo1 qo2 qo3 qn1 qc1 qn2 qc2 qn3 qc3 rs1 rs2 rs3 ro1 ro2 ro3 rn1 rc1 rn2 rc2 rn3 rc3 pd1 pd2 pd3 qd1 qd2 qd3 rd1 rd2 rd3 x y z u v t a b c k hk _ Np1 Np2 Np3 Nq1 Nq2 Nq3 Nr1 Nr2 Nr3).mono ?_
        rintro e f3 ⟨rfl, hB⟩
        have HB := (T0.step hB).below
        have HR : Hid (ctB x y z u v t a b c = decide (0 < turnI x y z u v t a b c)) := by
          show _ = _
          unfold ctB
          rw [HC]
          simp only [h2, h3, decide_true, Bool.true_and]
        clear hB T0 p0 q0 r0 p1 q1 r1 p2 q2 r2 p3 q3 r3 p4 q4 r4 p5 q5 r5 Np1 Np2 Np3 Nq1 Nq2 Nq3 Nr1 Nr2 Nr3 HC h2 h3
        go_wp2
        go_ret
        exact ⟨by rw [HR.out]; rfl, HB⟩
      · have d3 : decide (cmpI (b * t) (v * c) < 0) = false := decide_eq_false h3
        have HR : Hid (ctB x y z u v t a b c = false) := by show _ = _; unfold ctB; rw [HC]; simp [h3]
        have HB := T0.below
        clear T0 Np1 Np2 Np3 Nq1 Nq2 Nq3 Nr1 Nr2 Nr3 HC h2 h3
        go_wp2
        go_ret
        exact ⟨by rw [HR.out]; rfl, HB⟩
    · have d2 : decide (cmpI (y * c) (b * z) ≤ 0) = false := decide_eq_false h2
      have HR : Hid (ctB x y z u v t a b c = false) := by show _ = _; unfold ctB; rw [HC]; simp [h2]
      have HB := T0.below
      clear T0 Np1 Np2 Np3 Nq1 Nq2 Nq3 Nr1 Nr2 Nr3 HC h2
      go_wp2
      go_ret
      exact ⟨by rw [HR.out]; rfl, HB⟩
end Go.Proofs.Ytofjlobbohfacaa

/- How a point lies to loops: the model's walk. -/
namespace Go.Proofs.Ytofjlobbohfacaa
open Go.RowKit
/-- Whether the point lies on one of the first loops. -/
def onT (L : Nat → Nat) (q : Nat → Qs) (a b c : Int) : Nat → Bool
  | 0 => false
  | i + 1 => onT L q a b c i || onM (L i) (q i) a b c (L i)
/-- Whether an odd number of lines of them are crossed. -/
def paT (L : Nat → Nat) (q : Nat → Qs) (a b c : Int) : Nat → Bool
  | 0 => false
  | i + 1 => paT L q a b c i ^^ paM (L i) (q i) a b c (L i)
/-- How the point lies to loops. -/
def sdT (n : Nat) (L : Nat → Nat) (q : Nat → Qs) (a b c : Int) : Int := if onT L q a b c n = true then 0 else if paT L q a b c n = true then 1 else -1
def lsV (n : Nat) (L : Nat → Nat) (q : Nat → Qs) (a b c : Int) : Int := if lpB n L q = true ∧ ptB a b c = true then sdT n L q a b c else 2
theorem onM_mono (m : Nat) (q : Qs) (a b c : Int) {d e : Nat} (h : d ≤ e) (ho : onM m q a b c d = true) : onM m q a b c e = true := by
  induction e with
  | zero => obtain rfl : d = 0 := by omega
            exact ho
  | succ k ih =>
    rcases Nat.lt_or_ge d (k + 1) with h' | h'
    · rw [onM, ih (by omega)]; rfl
    · obtain rfl : d = k + 1 := by omega
      exact ho
theorem onT_mono (L : Nat → Nat) (q : Nat → Qs) (a b c : Int) {d e : Nat} (h : d ≤ e) (ho : onT L q a b c d = true) : onT L q a b c e = true := by
  induction e with
  | zero => obtain rfl : d = 0 := by omega
            exact ho
  | succ k ih =>
    rcases Nat.lt_or_ge d (k + 1) with h' | h'
    · rw [onT, ih (by omega)]; rfl
    · obtain rfl : d = k + 1 := by omega
      exact ho
theorem lpB_out {n : Nat} {L : Nat → Nat} {q : Nat → Qs} (h : lpB n L q = true) : n ≤ 40 ∧ (∀ i, i < n → 3 ≤ L i) ∧ sumL L n ≤ 200 ∧ ∀ i, i < n → ∀ k, k < L i → ptB (q i k).1 (q i k).2.1 (q i k).2.2 = true := by
  unfold lpB at h
  have h1 := of_decide_eq_true h
  refine ⟨h1.1, h1.2.1, h1.2.2.1, fun i hi => ?_⟩
  have h2 := h1.2.2.2 i hi
  unfold rowB at h2
  exact of_decide_eq_true h2
theorem sumL_one (L : Nat → Nat) {i n : Nat} (h : i < n) : L i ≤ sumL L n := by
  have := sumL_le L (show i + 1 ≤ n by omega)
  have e : sumL L (i + 1) = sumL L i + L i := rfl
  omega
/-- A point of the model that was made and laid in a block of its own. -/
def CutW (W0 wx : World) (x y z : Int) (p : Value) : Prop :=
  ∃ (g : Nat) (rs1 : Bool) (ro1 : Option Addr) (rn1 rc1 : Nat) (rd1 : List Int) (rs2 : Bool) (ro2 : Option Addr) (rn2 rc2 : Nat) (rd2 : List Int) (rs3 : Bool) (ro3 : Option Addr) (rn3 rc3 : Nat) (rd3 : List Int), p = .pointer (some ⟨g, 0, none⟩) ∧ W0.heap.size ≤ g ∧ Blk wx g [.bool rs1, .slice ro1 rn1 rc1, .bool rs2, .slice ro2 rn2 rc2, .bool rs3, .slice ro3 rn3 rc3] ∧ IsNum wx rs1 ro1 rn1 rc1 rd1 x 8 ∧ IsNum wx rs2 ro2 rn2 rc2 rd2 y 8 ∧ IsNum wx rs3 ro3 rn3 rc3 rd3 z 8 ∧ Below W0.heap.size W0 wx
theorem cutW_new {W0 X : World} {x y z : Int} {rs1 : Bool} {ro1 : Option Addr} {rn1 rc1 : Nat} {rd1 : List Int} {rs2 : Bool} {ro2 : Option Addr} {rn2 rc2 : Nat} {rd2 : List Int} {rs3 : Bool} {ro3 : Option Addr} {rn3 rc3 : Nat} {rd3 : List Int} {T : TypeId} (H : Below W0.heap.size W0 X) (N1 : IsNum X rs1 ro1 rn1 rc1 rd1 x 8) (N2 : IsNum X rs2 ro2 rn2 rc2 rd2 y 8) (N3 : IsNum X rs3 ro3 rn3 rc3 rd3 z 8) : CutW W0 (X.alloc (.cells #[.bool rs1, .slice ro1 rn1 rc1, .bool rs2, .slice ro2 rn2 rc2, .bool rs3, .slice ro3 rn3 rc3] T)) x y z (.pointer (some ⟨X.heap.size, 0, none⟩)) :=
  ⟨_, rs1, ro1, rn1, rc1, rd1, rs2, ro2, rn2, rc2, rd2, rs3, ro3, rn3, rc3, rd3, rfl, H.size, Blk.new X [.bool rs1, .slice ro1 rn1 rc1, .bool rs2, .slice ro2 rn2 rc2, .bool rs3, .slice ro3 rn3 rc3] T rfl, N1.alloc _, N2.alloc _, N3.alloc _, H.alloc H.size _⟩
theorem cutW_set {W0 X : World} {x y z : Int} {g : Nat} {rs1 : Bool} {ro1 : Option Addr} {rn1 rc1 : Nat} {rd1 : List Int} {rs2 : Bool} {ro2 : Option Addr} {rn2 rc2 : Nat} {rd2 : List Int} {rs3 : Bool} {ro3 : Option Addr} {rn3 rc3 : Nat} {rd3 : List Int} (H : Below W0.heap.size W0 X) (N1 : IsNum X rs1 ro1 rn1 rc1 rd1 x 8) (N2 : IsNum X rs2 ro2 rn2 rc2 rd2 y 8) (N3 : IsNum X rs3 ro3 rn3 rc3 rd3 z 8) (G : Blk X g [.bool false, .slice none 0 0, .bool false, .slice none 0 0, .bool false, .slice none 0 0]) (hg : W0.heap.size ≤ g) : CutW W0 ((((((X.setCell ⟨g, 0, none⟩ (.bool rs1)).setCell ⟨g, 1, none⟩ (.slice ro1 rn1 rc1)).setCell ⟨g, 2, none⟩ (.bool rs2)).setCell ⟨g, 3, none⟩ (.slice ro2 rn2 rc2)).setCell ⟨g, 4, none⟩ (.bool rs3)).setCell ⟨g, 5, none⟩ (.slice ro3 rn3 rc3)) x y z (.pointer (some ⟨g, 0, none⟩)) :=
  ⟨g, rs1, ro1, rn1, rc1, rd1, rs2, ro2, rn2, rc2, rd2, rs3, ro3, rn3, rc3, rd3, rfl, hg, ((((((G.setI 0 (by simp) (.bool rs1)).setI 1 (by simp) (.slice ro1 rn1 rc1)).setI 2 (by simp) (.bool rs2)).setI 3 (by simp) (.slice ro2 rn2 rc2)).setI 4 (by simp) (.bool rs3)).setI 5 (by simp) (.slice ro3 rn3 rc3)), num_set6 N1 G _ _ _ _ _ _, num_set6 N2 G _ _ _ _ _ _, num_set6 N3 G _ _ _ _ _ _, ((((((H.setCell (p := ⟨g, 0, none⟩) hg _).setCell (p := ⟨g, 1, none⟩) hg _).setCell (p := ⟨g, 2, none⟩) hg _).setCell (p := ⟨g, 3, none⟩) hg _).setCell (p := ⟨g, 4, none⟩) hg _).setCell (p := ⟨g, 5, none⟩) hg _)⟩
set_option maxRecDepth 100000 in
set_option maxHeartbeats 8000000 in
theorem specLoopsSide_any (ao : Option Addr) (n cap : Nat) (S : Nat → Option Addr × Nat) (L : Nat → Nat) (q : Nat → Qs) (a b c : Int) (ta : told a = true) (tb : told b = true) (tc : told c = true) (w : World) (hS : LpIn w ao n S L q) (hT : ToldQ n L q) (hL : ∀ i, i < n → L i ≤ 1048576) : Calls Try.prog 7 #[.slice ao n cap, PV a b c] w (VP (.int .i64 (lsV n L q a b c)) w) := by
  have B0 := Blk.new w [.int .u64 (ww3 a), .int .u64 (ww2 a), .int .u64 (ww1 a), .int .u64 (ww0 a), .int .u64 (ww3 b), .int .u64 (ww2 b), .int .u64 (ww1 b), .int .u64 (ww0 b), .int .u64 (ww3 c), .int .u64 (ww2 c), .int .u64 (ww1 c), .int .u64 (ww0 c)] 34 rfl
  have HB0 : Below w.heap.size w (w.alloc (.cells #[.int .u64 (ww3 a), .int .u64 (ww2 a), .int .u64 (ww1 a), .int .u64 (ww0 a), .int .u64 (ww3 b), .int .u64 (ww2 b), .int .u64 (ww1 b), .int .u64 (ww0 b), .int .u64 (ww3 c), .int .u64 (ww2 c), .int .u64 (ww1 c), .int .u64 (ww0 c)] 34)) := (Below.refl _ w).alloc (Nat.le_refl _) _
  have HS0 := hS.step HB0
  have LK := fun w h => specLoopsOk_any ao n cap S L q w h hT hL
  have PK := specPointOk_det a b c ta tb tc
  have OF := l3Of_det a b c ta tb tc
  have HT : Hid (ToldQ n L q) := hT
  clear hS hL hT
  go_enter Try.func7, Try.ntmps7
  go_upto_region 1 with fail
  generalize w.alloc (.cells #[.int .u64 (ww3 a), .int .u64 (ww2 a), .int .u64 (ww1 a), .int .u64 (ww0 a), .int .u64 (ww3 b), .int .u64 (ww2 b), .int .u64 (ww1 b), .int .u64 (ww0 b), .int .u64 (ww3 c), .int .u64 (ww2 c), .int .u64 (ww1 c), .int .u64 (ww0 c)] 34) = W1 at *
  go_wp2_with fail
  refine (LK _ HS0).mono ?_
  rintro e w1 ⟨rfl, hB⟩
  replace B0 := B0.step hB
  replace HB0 := HB0.trans (hB.mono HB0.size)
  replace HS0 := HS0.step hB
  clear hB LK
  by_cases hlp : lpB n L q = true
  · obtain ⟨hn, h3, hsum, hall⟩ := lpB_out hlp
    rw [hlp]
    have p0 := B0.c 0 rfl; have p1 := B0.c 1 rfl; have p2 := B0.c 2 rfl; have p3 := B0.c 3 rfl; have p4 := B0.c 4 rfl; have p5 := B0.c 5 rfl; have p6 := B0.c 6 rfl; have p7 := B0.c 7 rfl; have p8 := B0.c 8 rfl; have p9 := B0.c 9 rfl; have p10 := B0.c 10 rfl; have p11 := B0.c 11 rfl
    go_wp2_with fail
    refine (PK _).mono ?_
    rintro e w2 ⟨rfl, hB⟩
    replace B0 := B0.step hB
    replace HB0 := HB0.trans (hB.mono HB0.size)
    replace HS0 := HS0.step hB
    clear hB PK p0 p1 p2 p3 p4 p5 p6 p7 p8 p9 p10 p11
    by_cases hpt : ptB a b c = true
    · rw [hpt]
      have HV : Hid (lsV n L q a b c = sdT n L q a b c) := by show _ = _; unfold lsV; exact if_pos ⟨hlp, hpt⟩
      have HAL : Hid (∀ i, i < n → ∀ k, k < L i → ptB (q i k).1 (q i k).2.1 (q i k).2.2 = true) := hall
      have H3 : Hid (∀ i, i < n → 3 ≤ L i) := h3
      have HSU : Hid (sumL L n ≤ 200) := hsum
      clear hlp hpt hall h3 hsum
      have p0 := B0.c 0 rfl; have p1 := B0.c 1 rfl; have p2 := B0.c 2 rfl; have p3 := B0.c 3 rfl; have p4 := B0.c 4 rfl; have p5 := B0.c 5 rfl; have p6 := B0.c 6 rfl; have p7 := B0.c 7 rfl; have p8 := B0.c 8 rfl; have p9 := B0.c 9 rfl; have p10 := B0.c 10 rfl; have p11 := B0.c 11 rfl
      go_wp2_with fail
      refine (OF _).mono ?_
      rintro e w3 ⟨rs1, ro1, rn1, rc1, rd1, rs2, ro2, rn2, rc2, rd2, rs3, ro3, rn3, rc3, rd3, rfl, Nr1, Nr2, Nr3, hB⟩
      have hB2 := hB.alloc hB.size (.cells #[.bool rs1, .slice ro1 rn1 rc1, .bool rs2, .slice ro2 rn2 rc2, .bool rs3, .slice ro3 rn3 rc3] 64)
      have Br := Blk.new w3 [.bool rs1, .slice ro1 rn1 rc1, .bool rs2, .slice ro2 rn2 rc2, .bool rs3, .slice ro3 rn3 rc3] 64 rfl
      replace HB0 := HB0.trans (hB2.mono HB0.size)
      have HS1 := HS0.step hB2
      replace Nr1 := Nr1.alloc (.cells #[.bool rs1, .slice ro1 rn1 rc1, .bool rs2, .slice ro2 rn2 rc2, .bool rs3, .slice ro3 rn3 rc3] 64)
      replace Nr2 := Nr2.alloc (.cells #[.bool rs1, .slice ro1 rn1 rc1, .bool rs2, .slice ro2 rn2 rc2, .bool rs3, .slice ro3 rn3 rc3] 64)
      replace Nr3 := Nr3.alloc (.cells #[.bool rs1, .slice ro1 rn1 rc1, .bool rs2, .slice ro2 rn2 rc2, .bool rs3, .slice ro3 rn3 rc3] 64)
      clear hB hB2 HS0 OF B0 p0 p1 p2 p3 p4 p5 p6 p7 p8 p9 p10 p11
      go_wp2_with fail
      generalize w3.alloc (.cells #[.bool rs1, .slice ro1 rn1 rc1, .bool rs2, .slice ro2 rn2 rc2, .bool rs3, .slice ro3 rn3 rc3] 64) = W3 at *
      have HS : Hid (LpIn W3 ao n S L q) := HS1
      clear HS1
      have hnI : (n : Int) ≤ 40 := by omega
      go_loopw [6, 7] (fun o i wr => ∃ d : Nat, d ≤ n ∧ i = .int .i64 d ∧ o = .bool (paT L q a b c d) ∧ onT L q a b c d = false ∧ Below W3.heap.size W3 wr) (fun _ i _ => n - (intOf i).toNat)
      case atStart => exact ⟨0, by omega, rfl, rfl, rfl, Below.refl _ _⟩
      case round =>
        obtain ⟨d, hd, rfl, rfl, hon, HB⟩ := hrel
        by_cases hdn : d < n
        · obtain ⟨A, off, rfl, hA, hcell, hrow⟩ := HS.out.step HB d hdn
          have hdI : (d : Int) < n := by omega
          have hLd := sumL_one L hdn
          have hsu := HSU.out
          have h3d := H3.out d hdn
          have HR : Hid (PtIn wr (S d).1 (L d) (q d)) := hrow
          have HTd : Hid (∀ k, k < L d → told (q d k).1 = true ∧ told (q d k).2.1 = true ∧ told (q d k).2.2 = true) := HT.out d hdn
          have HAd : Hid (∀ k, k < L d → ptB (q d k).1 (q d k).2.1 (q d k).2.2 = true) := HAL.out d hdn
          have hLI : (L d : Int) ≤ 200 := by omega
          replace Br := Br.step HB; replace Nr1 := Nr1.below HB; replace Nr2 := Nr2.below HB; replace Nr3 := Nr3.below HB
          have hgr := Br.lt
          clear hrow hsu HS
          go_wp2_with fail
          go_loopw [6, 8] (fun o k wk => ∃ e : Nat, e ≤ L d ∧ k = .int .i64 e ∧ o = .bool (paT L q a b c d ^^ paM (L d) (q d) a b c e) ∧ onM (L d) (q d) a b c e = false ∧ Below wr.heap.size wr wk) (fun _ k _ => L d - (intOf k).toNat)
          case atStart => exact ⟨0, by omega, rfl, by rw [paM, Bool.xor_false], rfl, Below.refl _ _⟩
          case round =>
            rename_i hrel
            obtain ⟨e, he, rfl, rfl, hom, HB2⟩ := hrel
            have hcell2 := (HB2.cell (p := ⟨A, off + d, none⟩) hA).trans hcell
            have hA2 := Nat.lt_of_lt_of_le hA HB2.size
            clear hcell
            by_cases hen : e < L d
            · obtain ⟨B, of2, hsc, hB', q0, q1, q2, q3, q4, q5, q6, q7, q8, q9, q10, q11⟩ := (HR.out.step HB2).at hen
              rw [hsc] at hcell2
              have hml : (e + 1) % L d < L d := Nat.mod_lt _ (by omega)
              obtain ⟨t1, t2, t3⟩ := HTd.out e hen
              obtain ⟨u1, u2, u3⟩ := HTd.out _ hml
              have O1 := l3Of_det (q d e).1 (q d e).2.1 (q d e).2.2 t1 t2 t3
              have O2 := l3Of_det (q d ((e + 1) % L d)).1 (q d ((e + 1) % L d)).2.1 (q d ((e + 1) % L d)).2.2 u1 u2 u3
              clear t1 t2 t3 u1 u2 u3
              have heI : (e : Int) < L d := by omega
              go_wp2_with fail
              refine (O1 _).mono ?_
              rintro e1 w4 ⟨xs1, xo1, xn1, xc1, xd1, xs2, xo2, xn2, xc2, xd2, xs3, xo3, xn3, xc3, xd3, rfl, Nx1, Nx2, Nx3, hB⟩
              have hB2 := hB.alloc hB.size (.cells #[.bool xs1, .slice xo1 xn1 xc1, .bool xs2, .slice xo2 xn2 xc2, .bool xs3, .slice xo3 xn3 xc3] 64)
              have Bx := Blk.new w4 [.bool xs1, .slice xo1 xn1 xc1, .bool xs2, .slice xo2 xn2 xc2, .bool xs3, .slice xo3 xn3 xc3] 64 rfl
              replace HB2 := HB2.trans (hB2.mono HB2.size)
              have hcell3 := (hB2.cell (p := ⟨A, off + d, none⟩) hA2).trans hcell2
              replace Nx1 := Nx1.alloc (.cells #[.bool xs1, .slice xo1 xn1 xc1, .bool xs2, .slice xo2 xn2 xc2, .bool xs3, .slice xo3 xn3 xc3] 64)
              replace Nx2 := Nx2.alloc (.cells #[.bool xs1, .slice xo1 xn1 xc1, .bool xs2, .slice xo2 xn2 xc2, .bool xs3, .slice xo3 xn3 xc3] 64)
              replace Nx3 := Nx3.alloc (.cells #[.bool xs1, .slice xo1 xn1 xc1, .bool xs2, .slice xo2 xn2 xc2, .bool xs3, .slice xo3 xn3 xc3] 64)
              have hsc1 := hsc
              clear hB hB2 O1 hcell2 q0 q1 q2 q3 q4 q5 q6 q7 q8 q9 q10 q11 hsc hB'
              go_upto_region 12 with fail
              generalize w4.alloc (.cells #[.bool xs1, .slice xo1 xn1 xc1, .bool xs2, .slice xo2 xn2 xc2, .bool xs3, .slice xo3 xn3 xc3] 64) = W5 at *
              go_cut [10] (fun p wx => CutW W5 wx (q d ((e + 1) % L d)).1 (q d ((e + 1) % L d)).2.1 (q d ((e + 1) % L d)).2.2 p)
              case first =>
                obtain ⟨B', of3, hsc2, hBl, q0, q1, q2, q3, q4, q5, q6, q7, q8, q9, q10, q11⟩ := (HR.out.step HB2).at hml
                obtain ⟨rfl, rfl⟩ : B = B' ∧ of2 = of3 := by rw [hsc1] at hsc2; simpa using hsc2
                have H0 : Below W5.heap.size W5 W5 := Below.refl _ _
                have hA5 := Nat.lt_of_lt_of_le hA HB2.size
                have HK : ∀ W, Below W5.heap.size W5 W → (fun w' => w'.cell? ⟨A, off + d, none⟩ = some (.slice (some ⟨B, of2, none⟩) (L d) (S d).2) ∧ w'.cell? ⟨B, of2 + ((e + 1) % L d) * 12, none⟩ = some (.int .u64 (ww3 (q d ((e + 1) % L d)).1)) ∧ w'.cell? ⟨B, of2 + ((e + 1) % L d) * 12 + 1, none⟩ = some (.int .u64 (ww2 (q d ((e + 1) % L d)).1)) ∧ w'.cell? ⟨B, of2 + ((e + 1) % L d) * 12 + 2, none⟩ = some (.int .u64 (ww1 (q d ((e + 1) % L d)).1)) ∧ w'.cell? ⟨B, of2 + ((e + 1) % L d) * 12 + 3, none⟩ = some (.int .u64 (ww0 (q d ((e + 1) % L d)).1)) ∧ w'.cell? ⟨B, of2 + ((e + 1) % L d) * 12 + 4, none⟩ = some (.int .u64 (ww3 (q d ((e + 1) % L d)).2.1)) ∧ w'.cell? ⟨B, of2 + ((e + 1) % L d) * 12 + 5, none⟩ = some (.int .u64 (ww2 (q d ((e + 1) % L d)).2.1)) ∧ w'.cell? ⟨B, of2 + ((e + 1) % L d) * 12 + 6, none⟩ = some (.int .u64 (ww1 (q d ((e + 1) % L d)).2.1)) ∧ w'.cell? ⟨B, of2 + ((e + 1) % L d) * 12 + 7, none⟩ = some (.int .u64 (ww0 (q d ((e + 1) % L d)).2.1)) ∧ w'.cell? ⟨B, of2 + ((e + 1) % L d) * 12 + 8, none⟩ = some (.int .u64 (ww3 (q d ((e + 1) % L d)).2.2)) ∧ w'.cell? ⟨B, of2 + ((e + 1) % L d) * 12 + 9, none⟩ = some (.int .u64 (ww2 (q d ((e + 1) % L d)).2.2)) ∧ w'.cell? ⟨B, of2 + ((e + 1) % L d) * 12 + 10, none⟩ = some (.int .u64 (ww1 (q d ((e + 1) % L d)).2.2)) ∧ w'.cell? ⟨B, of2 + ((e + 1) % L d) * 12 + 11, none⟩ = some (.int .u64 (ww0 (q d ((e + 1) % L d)).2.2))) W := fun W h => ⟨(h.cell (p := ⟨A, off + d, none⟩) hA5).trans hcell3, (h.cell (p := ⟨B, of2 + ((e + 1) % L d) * 12, none⟩) hBl).trans q0, (h.cell (p := ⟨B, of2 + ((e + 1) % L d) * 12 + 1, none⟩) hBl).trans q1, (h.cell (p := ⟨B, of2 + ((e + 1) % L d) * 12 + 2, none⟩) hBl).trans q2, (h.cell (p := ⟨B, of2 + ((e + 1) % L d) * 12 + 3, none⟩) hBl).trans q3, (h.cell (p := ⟨B, of2 + ((e + 1) % L d) * 12 + 4, none⟩) hBl).trans q4, (h.cell (p := ⟨B, of2 + ((e + 1) % L d) * 12 + 5, none⟩) hBl).trans q5, (h.cell (p := ⟨B, of2 + ((e + 1) % L d) * 12 + 6, none⟩) hBl).trans q6, (h.cell (p := ⟨B, of2 + ((e + 1) % L d) * 12 + 7, none⟩) hBl).trans q7, (h.cell (p := ⟨B, of2 + ((e + 1) % L d) * 12 + 8, none⟩) hBl).trans q8, (h.cell (p := ⟨B, of2 + ((e + 1) % L d) * 12 + 9, none⟩) hBl).trans q9, (h.cell (p := ⟨B, of2 + ((e + 1) % L d) * 12 + 10, none⟩) hBl).trans q10, (h.cell (p := ⟨B, of2 + ((e + 1) % L d) * 12 + 11, none⟩) hBl).trans q11⟩
                have hrem : ((e : Int) + 1).tmod (L d : Int) = (((e + 1) % L d : Nat) : Int) := by
                  rw [Int.tmod_eq_emod_of_nonneg (by omega), Int.natCast_emod]
                  rfl
                have hmI : (((e + 1) % L d : Nat) : Int) < L d := by omega
                have hadd : IntKind.i64.wrap ((e : Int) + 1) = (e : Int) + 1 := by rw [IntKind.wrap_i64]; omega
                have hl0 : ¬ ((L d : Int) = 0) := by omega
                have hl1 : ¬ (L d = 0) := by omega
                clear hsc2 hsc1 Bx Nx1 Nx2 Nx3 Br Nr1 Nr2 Nr3 HB0 HB HB2 hcell3 q0 q1 q2 q3 q4 q5 q6 q7 q8 q9 q10 q11 HR hom hon HTd HAd HT HAL H3 HSU
                generalize (e + 1) % L d = e' at *
                go_region_held3 (fun w' => w'.cell? ⟨A, off + d, none⟩ = some (.slice (some ⟨B, of2, none⟩) (L d) (S d).2) ∧ w'.cell? ⟨B, of2 + e' * 12, none⟩ = some (.int .u64 (ww3 (q d e').1)) ∧ w'.cell? ⟨B, of2 + e' * 12 + 1, none⟩ = some (.int .u64 (ww2 (q d e').1)) ∧ w'.cell? ⟨B, of2 + e' * 12 + 2, none⟩ = some (.int .u64 (ww1 (q d e').1)) ∧ w'.cell? ⟨B, of2 + e' * 12 + 3, none⟩ = some (.int .u64 (ww0 (q d e').1)) ∧ w'.cell? ⟨B, of2 + e' * 12 + 4, none⟩ = some (.int .u64 (ww3 (q d e').2.1)) ∧ w'.cell? ⟨B, of2 + e' * 12 + 5, none⟩ = some (.int .u64 (ww2 (q d e').2.1)) ∧ w'.cell? ⟨B, of2 + e' * 12 + 6, none⟩ = some (.int .u64 (ww1 (q d e').2.1)) ∧ w'.cell? ⟨B, of2 + e' * 12 + 7, none⟩ = some (.int .u64 (ww0 (q d e').2.1)) ∧ w'.cell? ⟨B, of2 + e' * 12 + 8, none⟩ = some (.int .u64 (ww3 (q d e').2.2)) ∧ w'.cell? ⟨B, of2 + e' * 12 + 9, none⟩ = some (.int .u64 (ww2 (q d e').2.2)) ∧ w'.cell? ⟨B, of2 + e' * 12 + 10, none⟩ = some (.int .u64 (ww1 (q d e').2.2)) ∧ w'.cell? ⟨B, of2 + e' * 12 + 11, none⟩ = some (.int .u64 (ww0 (q d e').2.2))) (refine HK _ ?_ <;> repeat (first | (with_reducible exact H1) | (with_reducible exact H0) | (with_reducible refine Below.drew ?_) | (with_reducible refine Below.alloc ?_ (by first | exact H1.size | simp) _) | (with_reducible refine Below.setCell ?_ (by first | exact H1.size | exact Nat.le_refl _ | simp) _)))
                  (first
                    | (go_at_call 25; refine (O2 _).mono ?_; rintro e v1 ⟨rs1, ro1, rn1, rc1, rd1, rs2, ro2, rn2, rc2, rd2, rs3, ro3, rn3, rc3, rd3, rfl, Nr1, Nr2, Nr3, hB⟩; (first | (have H1 : Below W5.heap.size W5 v1 := (by with_reducible exact H0.trans (hB.mono H0.size))) | (have H1 : Below W5.heap.size W5 v1 := (by with_reducible exact H0.drew.trans (hB.mono H0.drew.size))) | (have H1 : Below W5.heap.size W5 v1 := (by with_reducible exact (H0.alloc (Nat.le_refl _) _).trans (hB.mono (H0.alloc (Nat.le_refl _) _).size)); have G0 := (Blk.new _ [.bool false, .slice none 0 0, .bool false, .slice none 0 0, .bool false, .slice none 0 0] _ rfl).step hB; have j0 := G0.c 0 rfl; have jf0 := G0.f 0 rfl; have j1 := G0.c 1 rfl; have jf1 := G0.f 1 rfl; have j2 := G0.c 2 rfl; have jf2 := G0.f 2 rfl; have j3 := G0.c 3 rfl; have jf3 := G0.f 3 rfl; have j4 := G0.c 4 rfl; have jf4 := G0.f 4 rfl; have j5 := G0.c 5 rfl; have jf5 := G0.f 5 rfl; have jl := G0.lt) | (have H1 : Below W5.heap.size W5 v1 := (by with_reducible exact (H0.alloc (Nat.le_refl _) _).drew.trans (hB.mono (H0.alloc (Nat.le_refl _) _).drew.size)); have G0 := (Blk.new _ [.bool false, .slice none 0 0, .bool false, .slice none 0 0, .bool false, .slice none 0 0] _ rfl).drew.step hB; have j0 := G0.c 0 rfl; have jf0 := G0.f 0 rfl; have j1 := G0.c 1 rfl; have jf1 := G0.f 1 rfl; have j2 := G0.c 2 rfl; have jf2 := G0.f 2 rfl; have j3 := G0.c 3 rfl; have jf3 := G0.f 3 rfl; have j4 := G0.c 4 rfl; have jf4 := G0.f 4 rfl; have j5 := G0.c 5 rfl; have jf5 := G0.f 5 rfl; have jl := G0.lt)); clear hB))
                all_goals go_wp2_with fail
                all_goals go_meet
                all_goals first | (with_reducible exact cutW_new H1 Nr1 Nr2 Nr3) | (with_reducible exact cutW_set H1 Nr1 Nr2 Nr3 G0 (by simp))
              case rest =>
                obtain ⟨gy, ys1, yo1, yn1, yc1, yd1, ys2, yo2, yn2, yc2, yd2, ys3, yo3, yn3, yc3, yd3, hpp, hgy, By, Ny1, Ny2, Ny3, hB⟩ := hcut
                subst hpp
                have hgx := Bx.lt
                replace Bx := Bx.step hB; replace Nx1 := Nx1.below hB; replace Nx2 := Nx2.below hB; replace Nx3 := Nx3.below hB
                replace HB2 := HB2.trans (hB.mono HB2.size)
                replace Br := Br.step HB2; replace Nr1 := Nr1.below HB2; replace Nr2 := Nr2.below HB2; replace Nr3 := Nr3.below HB2
                clear hB hcell3 O2
                have LB := fun w => l3Between_any xs1 xs2 xs3 xo1 xo2 xo3 xn1 xc1 xn2 xc2 xn3 xc3 ys1 ys2 ys3 yo1 yo2 yo3 yn1 yc1 yn2 yc2 yn3 yc3 rs1 rs2 rs3 ro1 ro2 ro3 rn1 rc1 rn2 rc2 rn3 rc3 xd1 xd2 xd3 yd1 yd2 yd3 rd1 rd2 rd3 (q d e).1 (q d e).2.1 (q d e).2.2 (q d ((e + 1) % L d)).1 (q d ((e + 1) % L d)).2.1 (q d ((e + 1) % L d)).2.2 a b c 8 (by omega) w
                have LC := fun w => l5Cuts_any xs1 xs2 xs3 xo1 xo2 xo3 xn1 xc1 xn2 xc2 xn3 xc3 ys1 ys2 ys3 yo1 yo2 yo3 yn1 yc1 yn2 yc2 yn3 yc3 rs1 rs2 rs3 ro1 ro2 ro3 rn1 rc1 rn2 rc2 rn3 rc3 xd1 xd2 xd3 yd1 yd2 yd3 rd1 rd2 rd3 (q d e).1 (q d e).2.1 (q d e).2.2 (q d ((e + 1) % L d)).1 (q d ((e + 1) % L d)).2.1 (q d ((e + 1) % L d)).2.2 a b c 8 (by omega) w
                have hom1 : onM (L d) (q d) a b c (e + 1) = (onM (L d) (q d) a b c e || btwS (q d e).1 (q d e).2.1 (q d e).2.2 (q d ((e + 1) % L d)).1 (q d ((e + 1) % L d)).2.1 (q d ((e + 1) % L d)).2.2 a b c) := rfl
                have hpa1 : paM (L d) (q d) a b c (e + 1) = (paM (L d) (q d) a b c e ^^ ctB (q d e).1 (q d e).2.1 (q d e).2.2 (q d ((e + 1) % L d)).1 (q d ((e + 1) % L d)).2.1 (q d ((e + 1) % L d)).2.2 a b c) := rfl
                generalize btwS (q d e).1 (q d e).2.1 (q d e).2.2 (q d ((e + 1) % L d)).1 (q d ((e + 1) % L d)).2.1 (q d ((e + 1) % L d)).2.2 a b c = bt at *
                generalize ctB (q d e).1 (q d e).2.1 (q d e).2.2 (q d ((e + 1) % L d)).1 (q d ((e + 1) % L d)).2.1 (q d ((e + 1) % L d)).2.2 a b c = ct at *
                have x0 := Bx.c 0 rfl; have y0 := By.c 0 rfl; have r0 := Br.c 0 rfl; have x1 := Bx.c 1 rfl; have y1 := By.c 1 rfl; have r1 := Br.c 1 rfl; have x2 := Bx.c 2 rfl; have y2 := By.c 2 rfl; have r2 := Br.c 2 rfl; have x3 := Bx.c 3 rfl; have y3 := By.c 3 rfl; have r3 := Br.c 3 rfl; have x4 := Bx.c 4 rfl; have y4 := By.c 4 rfl; have r4 := Br.c 4 rfl; have x5 := Bx.c 5 rfl; have y5 := By.c 5 rfl; have r5 := Br.c 5 rfl
                go_wp2_with fail
                refine (LB _ Nx1 Nx2 Nx3 Ny1 Ny2 Ny3 Nr1 Nr2 Nr3).mono ?_
                rintro e2 w6 ⟨rfl, hB⟩
                replace Bx := Bx.step hB; replace Nx1 := Nx1.below hB; replace Nx2 := Nx2.below hB; replace Nx3 := Nx3.below hB
                replace By := By.step hB; replace Ny1 := Ny1.below hB; replace Ny2 := Ny2.below hB; replace Ny3 := Ny3.below hB
                replace Br := Br.step hB; replace Nr1 := Nr1.below hB; replace Nr2 := Nr2.below hB; replace Nr3 := Nr3.below hB
                replace HB2 := HB2.trans (hB.mono HB2.size)
                clear hB LB x0 y0 r0 x1 y1 r1 x2 y2 r2 x3 y3 r3 x4 y4 r4 x5 y5 r5
                cases bt with
                | true =>
                  have HV2 : Hid (sdT n L q a b c = 0) := by
                    show _ = _
                    unfold sdT
                    have h1 : onM (L d) (q d) a b c (L d) = true := onM_mono _ _ _ _ _ (show e + 1 ≤ L d by omega) (by rw [hom1, Bool.or_true])
                    have h2 : onT L q a b c (d + 1) = true := by rw [onT, h1, Bool.or_true]
                    exact if_pos (onT_mono _ _ _ _ _ (show d + 1 ≤ n by omega) h2)
                  have HBF := HB0.trans ((HB.trans (HB2.mono HB.size)).mono HB0.size)
                  clear Bx By Br Nx1 Nx2 Nx3 Ny1 Ny2 Ny3 Nr1 Nr2 Nr3 LC HB0 HB HB2 hom hom1 hpa1 hon HR HTd HAd HT HAL H3 HSU
                  go_wp2
                  go_ret
                  exact ⟨by rw [HV.out, HV2.out]; rfl, HBF⟩
                | false =>
                  have hom2 : Hid (onM (L d) (q d) a b c (e + 1) = false) := by show _ = _; rw [hom1, hom]; rfl
                  clear hom1
                  have x0 := Bx.c 0 rfl; have y0 := By.c 0 rfl; have r0 := Br.c 0 rfl; have x1 := Bx.c 1 rfl; have y1 := By.c 1 rfl; have r1 := Br.c 1 rfl; have x2 := Bx.c 2 rfl; have y2 := By.c 2 rfl; have r2 := Br.c 2 rfl; have x3 := Bx.c 3 rfl; have y3 := By.c 3 rfl; have r3 := Br.c 3 rfl; have x4 := Bx.c 4 rfl; have y4 := By.c 4 rfl; have r4 := Br.c 4 rfl; have x5 := Bx.c 5 rfl; have y5 := By.c 5 rfl; have r5 := Br.c 5 rfl
                  go_wp2_with fail
                  refine (LC _ Nx1 Nx2 Nx3 Ny1 Ny2 Ny3 Nr1 Nr2 Nr3).mono ?_
                  rintro e3 w7 ⟨rfl, hB⟩
                  replace HB2 := HB2.trans (hB.mono HB2.size)
                  clear hB LC Bx By Br Nx1 Nx2 Nx3 Ny1 Ny2 Ny3 Nr1 Nr2 Nr3 x0 y0 r0 x1 y1 r1 x2 y2 r2 x3 y3 r3 x4 y4 r4 x5 y5 r5
                  cases ct with
                  | true =>
                    have HPA : Hid ((paT L q a b c d ^^ paM (L d) (q d) a b c (e + 1)) = !(paT L q a b c d ^^ paM (L d) (q d) a b c e)) := by
                      show _ = _
                      rw [hpa1]
                      generalize paT L q a b c d = X
                      generalize paM (L d) (q d) a b c e = Y
                      cases X <;> cases Y <;> rfl
                    clear hpa1
                    go_wp2
                    go_roundw
                    case rel => exact ⟨e + 1, by omega, by go_num, by rw [HPA.out], hom2.out, HB2⟩
                    case measure => simp [intOf]; omega
                  | false =>
                    have HPA : Hid ((paT L q a b c d ^^ paM (L d) (q d) a b c (e + 1)) = (paT L q a b c d ^^ paM (L d) (q d) a b c e)) := by
                      show _ = _
                      rw [hpa1, Bool.xor_false]
                    clear hpa1
                    go_wp2
                    go_roundw
                    case rel => exact ⟨e + 1, by omega, by go_num, by rw [HPA.out], hom2.out, HB2⟩
                    case measure => simp [intOf]; omega
            · obtain rfl : e = L d := by omega
              have HBF := HB.trans (HB2.mono HB.size)
              have hpd : paT L q a b c (d + 1) = (paT L q a b c d ^^ paM (L d) (q d) a b c (L d)) := rfl
              have hod : Hid (onT L q a b c (d + 1) = false) := by show (onT L q a b c d || onM (L d) (q d) a b c (L d)) = false; rw [hon, hom]; rfl
              clear hon hom HR HTd HAd HB HB2 Br Nr1 Nr2 Nr3
              go_wp2
              go_roundw
              case rel => exact ⟨d + 1, by omega, by go_num, by rw [hpd], hod.out, HBF⟩
              case measure => simp [intOf]; omega
        · obtain rfl : d = n := by omega
          have HV2 : Hid (sdT d L q a b c = if paT L q a b c d = true then 1 else -1) := by show _ = _; unfold sdT; rw [hon]; rfl
          have HBF := HB0.trans (HB.mono HB0.size)
          clear HS HT HAL H3 HSU Br Nr1 Nr2 Nr3 hon HB0 HB
          by_cases hpa : paT L q a b c d = true
          · rw [hpa] at HV2 ⊢
            go_wp2
            go_ret
            exact ⟨by rw [HV.out, HV2.out]; rfl, HBF⟩
          · rw [Bool.eq_false_iff.2 hpa] at HV2 ⊢
            go_wp2
            go_ret
            exact ⟨by rw [HV.out, HV2.out]; rfl, HBF⟩
    · have HV : Hid (lsV n L q a b c = 2) := by show _ = _; unfold lsV; exact if_neg (fun h => hpt h.2)
      rw [Bool.eq_false_iff.2 hpt]
      clear hpt hlp hall h3 hsum hn HS0 B0 OF
      go_wp2
      go_ret
      exact ⟨by rw [HV.out]; rfl, HB0⟩
  · have HV : Hid (lsV n L q a b c = 2) := by show _ = _; unfold lsV; exact if_neg (fun h => hlp h.1)
    rw [Bool.eq_false_iff.2 hlp]
    clear hlp HS0 B0 PK OF
    go_wp2
    go_ret
    exact ⟨by rw [HV.out]; rfl, HB0⟩
end Go.Proofs.Ytofjlobbohfacaa

/- How a point lies to loops: the program's walk. -/
namespace Go.Proofs.Ytofjlobbohfacaa
open Go.RowKit
theorem sdI_same (m : Nat) (q : Qs) (a b c : Int) (hm : 0 < m) (hc : 0 < c) (hq : ∀ k, k < m → 0 < (q k).2.2) : sdI m q a b c = if onM m q a b c m = true then 0 else if paM m q a b c m = true then 1 else -1 := by
  unfold sdI
  rw [on_all m q a b c hm]
  by_cases h : onM m q a b c m = true
  · rw [if_pos h, if_pos h]
  · rw [if_neg h, if_neg h, pa_same m q a b c hm hc hq (Bool.eq_false_iff.2 h)]
set_option maxRecDepth 100000 in
set_option maxHeartbeats 8000000 in
theorem implLoopsSide_any (ao : Option Addr) (n cap : Nat) (S : Nat → Option Addr × Nat) (L : Nat → Nat) (q : Nat → Qs) (a b c : Int) (ta : told a = true) (tb : told b = true) (tc : told c = true) (w : World) (hS : LpIn w ao n S L q) (hT : ToldQ n L q) (hL : ∀ i, i < n → L i ≤ 1048576) : Calls Try.prog 10 #[.slice ao n cap, PV a b c] w (VP (.int .i64 (lsV n L q a b c)) w) := by
  have B0 := Blk.new w [.int .u64 (ww3 a), .int .u64 (ww2 a), .int .u64 (ww1 a), .int .u64 (ww0 a), .int .u64 (ww3 b), .int .u64 (ww2 b), .int .u64 (ww1 b), .int .u64 (ww0 b), .int .u64 (ww3 c), .int .u64 (ww2 c), .int .u64 (ww1 c), .int .u64 (ww0 c)] 34 rfl
  have HB0 : Below w.heap.size w (w.alloc (.cells #[.int .u64 (ww3 a), .int .u64 (ww2 a), .int .u64 (ww1 a), .int .u64 (ww0 a), .int .u64 (ww3 b), .int .u64 (ww2 b), .int .u64 (ww1 b), .int .u64 (ww0 b), .int .u64 (ww3 c), .int .u64 (ww2 c), .int .u64 (ww1 c), .int .u64 (ww0 c)] 34)) := (Below.refl _ w).alloc (Nat.le_refl _) _
  have HS0 := hS.step HB0
  have LK := fun w h => implLoopsOk_any ao n cap S L q w h hT hL
  have PK := pright_det a b c ta tb tc
  have HL : Hid (∀ i, i < n → L i ≤ 1048576) := hL
  clear hS hL hT
  go_enter Try.func10, Try.ntmps10
  go_upto_region 1 with fail
  generalize w.alloc (.cells #[.int .u64 (ww3 a), .int .u64 (ww2 a), .int .u64 (ww1 a), .int .u64 (ww0 a), .int .u64 (ww3 b), .int .u64 (ww2 b), .int .u64 (ww1 b), .int .u64 (ww0 b), .int .u64 (ww3 c), .int .u64 (ww2 c), .int .u64 (ww1 c), .int .u64 (ww0 c)] 34) = W1 at *
  go_wp2_with fail
  refine (LK _ HS0).mono ?_
  rintro e w1 ⟨rfl, hB⟩
  replace B0 := B0.step hB
  replace HB0 := HB0.trans (hB.mono HB0.size)
  replace HS0 := HS0.step hB
  clear hB LK
  by_cases hlp : lpB n L q = true
  · obtain ⟨hn, h3, hsum, hall⟩ := lpB_out hlp
    rw [hlp]
    have p0 := B0.c 0 rfl; have p1 := B0.c 1 rfl; have p2 := B0.c 2 rfl; have p3 := B0.c 3 rfl; have p4 := B0.c 4 rfl; have p5 := B0.c 5 rfl; have p6 := B0.c 6 rfl; have p7 := B0.c 7 rfl; have p8 := B0.c 8 rfl; have p9 := B0.c 9 rfl; have p10 := B0.c 10 rfl; have p11 := B0.c 11 rfl
    go_wp2_with fail
    refine (PK _).mono ?_
    rintro e w2 ⟨rfl, hB⟩
    replace B0 := B0.step hB
    replace HB0 := HB0.trans (hB.mono HB0.size)
    replace HS0 := HS0.step hB
    clear hB PK p0 p1 p2 p3 p4 p5 p6 p7 p8 p9 p10 p11
    by_cases hpt : ptB a b c = true
    · rw [hpt]
      have HV : Hid (lsV n L q a b c = sdT n L q a b c) := by show _ = _; unfold lsV; exact if_pos ⟨hlp, hpt⟩
      have HAL : Hid (∀ i, i < n → ∀ k, k < L i → ptB (q i k).1 (q i k).2.1 (q i k).2.2 = true) := hall
      have H3 : Hid (∀ i, i < n → 3 ≤ L i) := h3
      have HPT : Hid (ptB a b c = true) := hpt
      have HS : Hid (LpIn w2 ao n S L q) := HS0
      clear hlp hpt hall h3 hsum HS0
      have hnI : (n : Int) ≤ 40 := by omega
      go_wp2_with fail
      go_loopw [5, 18] (fun o i wr => ∃ (d : Nat) (t : Int), d ≤ n ∧ i = .int .i64 d ∧ o = .int .i64 t ∧ Hid (t = if paT L q a b c d = true then 1 else -1) ∧ onT L q a b c d = false ∧ Below w2.heap.size w2 wr) (fun _ i _ => n - (intOf i).toNat)
      case atStart => exact ⟨0, -1, by omega, rfl, rfl, rfl, rfl, Below.refl _ _⟩
      case round =>
        obtain ⟨d, t, hd, rfl, rfl, HTT, hon, HB⟩ := hrel
        by_cases hdn : d < n
        · obtain ⟨A, off, rfl, hA, hcell, hrow⟩ := HS.out.step HB d hdn
          have hdI : (d : Int) < n := by omega
          have h3d := H3.out d hdn
          have LS := fun w h => loopSide_any (S d).1 (L d) (S d).2 (q d) a b c (by omega) (HL.out d hdn) (HAL.out d hdn) HPT.out w h
          have hsd := sdI_same (L d) (q d) a b c (by omega) (ptB_small HPT.out).1 (fun k hk => (ptB_small (HAL.out d hdn k hk)).1)
          have hot : onT L q a b c (d + 1) = (onT L q a b c d || onM (L d) (q d) a b c (L d)) := rfl
          have hpt1 : paT L q a b c (d + 1) = (paT L q a b c d ^^ paM (L d) (q d) a b c (L d)) := rfl
          generalize sdI (L d) (q d) a b c = v at *
          generalize onM (L d) (q d) a b c (L d) = om at *
          generalize paM (L d) (q d) a b c (L d) = pm at *
          replace B0 := B0.step HB
          have HBA := HB.alloc HB.size (.cells #[.slice (S d).1 (L d) (S d).2] 68)
          have hB1 := (Below.refl wr.heap.size wr).alloc (Nat.le_refl _) (.cells #[.slice (S d).1 (L d) (S d).2] 68)
          have G := Blk.new wr [.slice (S d).1 (L d) (S d).2] 68 rfl
          replace B0 := B0.step hB1
          have HR := hrow.step hB1
          have g0 := G.c 0 rfl
          have p0 := B0.c 0 rfl; have p1 := B0.c 1 rfl; have p2 := B0.c 2 rfl; have p3 := B0.c 3 rfl; have p4 := B0.c 4 rfl; have p5 := B0.c 5 rfl; have p6 := B0.c 6 rfl; have p7 := B0.c 7 rfl; have p8 := B0.c 8 rfl; have p9 := B0.c 9 rfl; have p10 := B0.c 10 rfl; have p11 := B0.c 11 rfl
          clear hB1 hrow HB
          go_wp2_with fail
          refine (LS _ HR).mono ?_
          rintro e w3 ⟨rfl, hB⟩
          replace HBA := HBA.trans (hB.mono HBA.size)
          clear hB LS HR G g0 p0 p1 p2 p3 p4 p5 p6 p7 p8 p9 p10 p11 B0
          cases om with
          | true =>
            obtain rfl : v = 0 := by rw [hsd]; rfl
            have HV2 : Hid (sdT n L q a b c = 0) := by
              show _ = _
              unfold sdT
              exact if_pos (onT_mono _ _ _ _ _ (show d + 1 ≤ n by omega) (by rw [hot, Bool.or_true]))
            have HBF := HB0.trans (HBA.mono HB0.size)
            clear hsd hot hpt1 hon HTT HS HAL H3 HL HPT HB0 HBA
            go_wp2
            go_ret
            exact ⟨by rw [HV.out, HV2.out]; rfl, HBF⟩
          | false =>
            have hot2 : Hid (onT L q a b c (d + 1) = false) := by show _ = _; rw [hot, hon]; rfl
            cases pm with
            | true =>
              obtain rfl : v = 1 := by rw [hsd]; rfl
              have HPA : Hid ((if t = 1 then (-1 : Int) else 1) = if paT L q a b c (d + 1) = true then 1 else -1) := by
                show _ = _
                rw [hpt1, HTT.out]
                generalize paT L q a b c d = X
                cases X <;> rfl
              clear hpt1 hot hsd hon
              have OS := otherSide_det t
              generalize (if t = 1 then (-1 : Int) else 1) = t2 at *
              go_wp2_with fail
              refine (OS _).mono ?_
              rintro e w4 ⟨rfl, hB⟩
              replace HBA := HBA.trans (hB.mono HBA.size)
              clear hB OS
              go_wp2
              go_roundw
              case rel => exact ⟨d + 1, t2, by omega, by go_num, rfl, HPA, hot2.out, HBA⟩
              case measure => simp [intOf]; omega
            | false =>
              obtain rfl : v = -1 := by rw [hsd]; rfl
              have HPA : Hid (t = if paT L q a b c (d + 1) = true then 1 else -1) := by show _ = _; rw [hpt1, Bool.xor_false]; exact HTT.out
              clear hpt1 hot hsd hon
              go_wp2
              go_roundw
              case rel => exact ⟨d + 1, t, by omega, by go_num, rfl, HPA, hot2.out, HBA⟩
              case measure => simp [intOf]; omega
        · obtain rfl : d = n := by omega
          have HV2 : Hid (sdT d L q a b c = t) := by show _ = _; unfold sdT; rw [hon, HTT.out]; rfl
          have HBF := HB0.trans (HB.mono HB0.size)
          clear HS HAL H3 HL hon HB0 HB HTT HPT B0
          go_wp2
          go_ret
          exact ⟨by rw [HV.out, HV2.out]; rfl, HBF⟩
    · have HV : Hid (lsV n L q a b c = 2) := by show _ = _; unfold lsV; exact if_neg (fun h => hpt h.2)
      rw [Bool.eq_false_iff.2 hpt]
      clear hpt hlp hall h3 hsum hn HS0 B0 HL
      go_wp2
      go_ret
      exact ⟨by rw [HV.out]; rfl, HB0⟩
  · have HV : Hid (lsV n L q a b c = 2) := by show _ = _; unfold lsV; exact if_neg (fun h => hlp h.1)
    rw [Bool.eq_false_iff.2 hlp]
    clear hlp HS0 B0 PK HL
    go_wp2
    go_ret
    exact ⟨by rw [HV.out]; rfl, HB0⟩
end Go.Proofs.Ytofjlobbohfacaa

/- Rows of loops of points: copied, held against one another, counted; the law. -/
namespace Go.Proofs.Ytofjlobbohfacaa
open Go.RowKit
set_option maxRecDepth 100000 in
set_option maxHeartbeats 2000000 in
theorem toLoop_any (ao : Option Addr) (m cap : Nat) (q : Qs) (hm : m ≤ 1048576) (w : World) (hS : PtIn w ao m q) : Calls Try.prog 28 #[.agg #[.slice ao m cap]] w (fun e w' => ∃ g, e = .returned (.agg #[.slice (some ⟨g, 0, none⟩) m m]) ∧ w.heap.size ≤ g ∧ w'.rowIs g 34 (m * 12) (fun i => .int .u64 (ptW q i)) ∧ Below w.heap.size w w') := by
  have HB : Below w.heap.size w (((w.alloc (.cells #[.slice ao m cap] 57)).alloc (.cells #[.slice none 0 0] 68)).alloc (.cells #[.slice none 0 0] 68)) := (((Below.refl _ w).alloc (Nat.le_refl _) _).alloc (by simp) _).alloc (by simp; omega) _
  have B0 := ((Blk.new w [.slice ao m cap] 57 rfl).alloc (.cells #[.slice none 0 0] 68)).alloc (.cells #[.slice none 0 0] 68)
  have B1 := (Blk.new (w.alloc (.cells #[.slice ao m cap] 57)) [.slice none 0 0] 68 (g := w.heap.size + 1) (by simp)).alloc (.cells #[.slice none 0 0] 68)
  have B2 := Blk.new ((w.alloc (.cells #[.slice ao m cap] 57)).alloc (.cells #[.slice none 0 0] 68)) [.slice none 0 0] 68 (g := w.heap.size + 1 + 1) (by simp)
  have HS := hS.step HB
  have hsz : (((w.alloc (.cells #[.slice ao m cap] 57)).alloc (.cells #[.slice none 0 0] 68)).alloc (.cells #[.slice none 0 0] 68)).heap.size = w.heap.size + 3 := by simp
  have TP := fun w h => toPointS_any ao m cap q hm w h
  clear hS
  go_enter Try.func28, Try.ntmps28
  have b0 := B0.c 0 rfl
  go_wp2_with fail
  refine (TP _ HS).mono ?_
  rintro e w1 ⟨g, rfl, hg, R, hB⟩
  rw [hsz] at hg
  replace B1 := B1.step hB; replace B2 := B2.step hB
  replace HB := HB.trans (hB.mono HB.size)
  clear hB TP B0 b0 HS hsz
  have c0 := B1.c 0 rfl; have f0 := B1.f 0 rfl; have l1 := B1.lt; have d0 := B2.c 0 rfl; have e0 := B2.f 0 rfl; have l2 := B2.lt
  have RN : ((w1.setCell ⟨w.heap.size + 1 + 1, 0, none⟩ (.slice (some ⟨g, 0, none⟩) m m)).setCell ⟨w.heap.size + 1, 0, none⟩ (.slice (some ⟨g, 0, none⟩) m m)).rowIs g 34 (m * 12) (fun i => .int .u64 (ptW q i)) := (R.setOther (by show g ≠ w.heap.size + 1 + 1; omega) _).setOther (by show g ≠ w.heap.size + 1; omega) _
  have HN : Below w.heap.size w ((w1.setCell ⟨w.heap.size + 1 + 1, 0, none⟩ (.slice (some ⟨g, 0, none⟩) m m)).setCell ⟨w.heap.size + 1, 0, none⟩ (.slice (some ⟨g, 0, none⟩) m m)) := Below.setCell (Below.setCell HB (by show w.heap.size ≤ w.heap.size + 1 + 1; omega) _) (by show w.heap.size ≤ w.heap.size + 1; omega) _
  clear R HB B1 B2
  go_wp2
  refine bodyPost_ret (v := .agg #[.slice (some ⟨g, 0, none⟩) m m]) (by simp [results, Try.results28, go_sem, c0]) rfl ?_
  exact ⟨g, rfl, by omega, RN, HN⟩
theorem Try.infoLoop : (Try.prog.info? 68).map (fun i => (i.zero, i.size, i.bytes)) = some (some (.agg #[.slice none 0 0]), 1, 24) := by kernel_rfl
theorem make_loops (n : Nat) (hn : n ≤ 1048576) (w : World) : (Instr.makeSlice 30 (.int .i64 (n : Int)) (.int .i64 (n : Int))).run Try.prog w = .ok (.slice (some ⟨w.heap.size, 0, none⟩) n n) (w.alloc (.cells (madeCells #[.slice none 0 0] n) 68)) := by
  obtain ⟨i, hi, hzz⟩ := Option.map_eq_some_iff.1 Try.infoLoop
  simp only [Prod.mk.injEq] at hzz
  obtain ⟨hz, hs, hb⟩ := hzz
  have hr := run_make (P := Try.prog) w 30 68 i (.agg #[.slice none 0 0]) Try.underlying30 hi hz .i64 .i64 n n (by omega) (Int.le_refl _) (by rw [hb]; omega) (by omega)
  simp only [Int.toNat_natCast, hs, Value.cells, Nat.mul_one] at hr
  exact hr
/-- So far the row holds what was copied, behind it nothing. -/
def cpL (S : Nat → Nat) (L : Nat → Nat) (c : Nat) (i : Nat) : Value := if i < c then .slice (some ⟨S i, 0, none⟩) (L i) (L i) else .slice none 0 0
set_option maxRecDepth 100000 in
set_option maxHeartbeats 2000000 in
theorem toLoopS_any (ao : Option Addr) (n cap : Nat) (S : Nat → Option Addr × Nat) (L : Nat → Nat) (q : Nat → Qs) (hn : n ≤ 1048576) (hL : ∀ i, i < n → L i ≤ 1048576) (w : World) (hS : LpIn w ao n S L q) : Calls Try.prog 8 #[.slice ao n cap] w (fun e w' => ∃ g S', e = .returned (.slice (some ⟨g, 0, none⟩) n n) ∧ LpIn w' (some ⟨g, 0, none⟩) n S' L q ∧ Below w.heap.size w w') := by
  have MK := make_loops n hn
  have HS : Hid (LpIn w ao n S L q) := hS
  have HL : Hid (∀ i, i < n → L i ≤ 1048576) := hL
  clear hS hL
  go_enter Try.func8, Try.ntmps8
  go_wp2_with fail
  have R0 := World.rowIs_made w (.slice none 0 0) n 68
  have B0 : Below w.heap.size w (w.alloc (.cells (madeCells #[.slice none 0 0] n) 68)) := (Below.refl _ _).alloc (Nat.le_refl _) _
  generalize w.alloc (.cells (madeCells #[.slice none 0 0] n) 68) = W1 at *
  have hnI : (n : Int) ≤ 1048576 := by omega
  clear MK
  go_loopw [4] (fun i wr => ∃ (c : Nat) (S' : Nat → Nat), c ≤ n ∧ i = .int .i64 c ∧ wr.rowIs w.heap.size 68 n (cpL S' L c) ∧ (∀ j, j < c → S' j ≠ w.heap.size ∧ wr.rowIs (S' j) 34 (L j * 12) (fun i => .int .u64 (ptW (q j) i))) ∧ Below w.heap.size w wr) (fun i _ => n - (intOf i).toNat)
  case atStart => exact ⟨0, fun _ => 0, by omega, rfl, R0.congr (fun i _ => by unfold cpL; simp), fun j hj => by omega, B0⟩
  case round =>
    clear R0 B0
    obtain ⟨c, S', hc, rfl, R, hp, HB⟩ := hrel
    have HP : Hid (∀ j, j < c → S' j ≠ w.heap.size ∧ wr.rowIs (S' j) 34 (L j * 12) (fun i => .int .u64 (ptW (q j) i))) := hp
    clear hp
    by_cases hcn : c < n
    · obtain ⟨A, off, rfl, hA, hcell, hrow⟩ := HS.out.step HB c hcn
      have hcI : (c : Int) < n := by omega
      have TL := fun w h => toLoop_any (S c).1 (L c) (S c).2 (q c) (HL.out c hcn) w h
      have hlr := R.lt
      go_wp2_with fail
      refine (TL _ hrow).mono ?_
      rintro e w1 ⟨g, rfl, hg, RG, hB⟩
      replace R := rowp_step R hB
      have HP2 : Hid (∀ j, j < c → S' j ≠ w.heap.size ∧ w1.rowIs (S' j) 34 (L j * 12) (fun i => .int .u64 (ptW (q j) i))) := fun j hj => ⟨(HP.out j hj).1, rowp_step (HP.out j hj).2 hB⟩
      replace HB := HB.trans (hB.mono HB.size)
      have o0 := R.cell (i := c) (by omega); have f0 := R.frozen c
      have RN : (w1.setCell ⟨w.heap.size, c, none⟩ (.slice (some ⟨g, 0, none⟩) (L c) (L c))).rowIs w.heap.size 68 n (cpL (fun j => if j = c then g else S' j) L (c + 1)) := (R.set c _).congr (fun i hi => by
        unfold cpL
        by_cases h : i = c
        · subst h; simp
        · rcases Nat.lt_or_ge i c with h' | h'
          · rw [if_neg h, if_pos h', if_pos (by omega)]; dsimp only; rw [if_neg h]
          · rw [if_neg h, if_neg (by omega), if_neg (by omega)])
      have HPN : Hid (∀ j, j < c + 1 → (if j = c then g else S' j) ≠ w.heap.size ∧ (w1.setCell ⟨w.heap.size, c, none⟩ (.slice (some ⟨g, 0, none⟩) (L c) (L c))).rowIs (if j = c then g else S' j) 34 (L j * 12) (fun i => .int .u64 (ptW (q j) i))) := fun j hj => by
        by_cases h : j = c
        · subst h
          rw [if_pos rfl]
          exact ⟨by omega, RG.setOther (by show g ≠ w.heap.size; omega) _⟩
        · rw [if_neg h]
          have := HP2.out j (by omega)
          exact ⟨this.1, this.2.setOther (by exact this.1) _⟩
      have HN : Below w.heap.size w (w1.setCell ⟨w.heap.size, c, none⟩ (.slice (some ⟨g, 0, none⟩) (L c) (L c))) := Below.setCell HB (Nat.le_refl _) _
      clear hB hcell hrow hA R HB RG HP HP2 TL hlr hg
      go_wp2
      go_roundw
      case rel => exact ⟨c + 1, _, by omega, by go_num, RN, HPN.out, HN⟩
      case measure => simp [intOf]; omega
    · obtain rfl : c = n := by omega
      have LI : Hid (LpIn wr (some ⟨w.heap.size, 0, none⟩) c (fun i => (some ⟨S' i, 0, none⟩, L i)) L q) := fun i hi => by
        refine ⟨w.heap.size, 0, rfl, R.lt, ?_, ptIn_row (HP.out i hi).2⟩
        rw [Nat.zero_add, R.cell hi]
        unfold cpL
        rw [if_pos hi]
      clear R HS HP HL
      go_wp2
      go_ret
      exact ⟨_, _, rfl, LI.out, HB⟩
set_option maxRecDepth 100000 in
set_option maxHeartbeats 2000000 in
theorem eqLoop_any (ao bo : Option Addr) (m ca cb : Nat) (q : Qs) (hm : m ≤ 1048576) (w : World) (hA : PtIn w ao m q) (hC : PtIn w bo m q) : Calls Try.prog 34 #[.agg #[.slice ao m ca], .agg #[.slice bo m cb]] w (BoolP true w) := by
  have HB : Below w.heap.size w ((w.alloc (.cells #[.slice ao m ca] 68)).alloc (.cells #[.slice bo m cb] 68)) := ((Below.refl _ w).alloc (Nat.le_refl _) _).alloc (by simp) _
  have B0 := (Blk.new w [.slice ao m ca] 68 rfl).alloc (.cells #[.slice bo m cb] 68)
  have B1 := Blk.new (w.alloc (.cells #[.slice ao m ca] 68)) [.slice bo m cb] 68 (g := w.heap.size + 1) (by simp)
  have HA := hA.step HB
  have HC := hC.step HB
  have EP := fun w h h' => eqPointS_any ao bo m ca cb q hm w h h'
  clear hA hC
  go_enter Try.func34, Try.ntmps34
  have b0 := B0.c 0 rfl
  have b1 := B1.c 0 rfl
  go_wp2_with fail
  refine (EP _ HA HC).mono ?_
  rintro e w1 ⟨rfl, hB⟩
  replace HB := HB.trans (hB.mono HB.size)
  clear hB EP HA HC B0 B1 b0 b1
  go_wp2
  go_ret
  exact ⟨rfl, HB⟩
set_option maxRecDepth 100000 in
set_option maxHeartbeats 2000000 in
theorem eqLoopS_any (ao bo : Option Addr) (n ca cb : Nat) (S S' : Nat → Option Addr × Nat) (L : Nat → Nat) (q : Nat → Qs) (hn : n ≤ 1048576) (hL : ∀ i, i < n → L i ≤ 1048576) (w : World) (hA : LpIn w ao n S L q) (hC : LpIn w bo n S' L q) : Calls Try.prog 11 #[.slice ao n ca, .slice bo n cb] w (BoolP true w) := by
  have HA : Hid (LpIn w ao n S L q) := hA
  have HC : Hid (LpIn w bo n S' L q) := hC
  have HL : Hid (∀ i, i < n → L i ≤ 1048576) := hL
  have hnI : (n : Int) ≤ 1048576 := by omega
  clear hA hC hL
  go_enter Try.func11, Try.ntmps11
  go_wp2_with fail
  go_loopw [5] (fun i wr => ∃ c : Nat, c ≤ n ∧ i = .int .i64 c ∧ Below w.heap.size w wr) (fun i _ => n - (intOf i).toNat)
  case atStart => exact ⟨0, by omega, rfl, Below.refl _ _⟩
  case round =>
    obtain ⟨c, hc, rfl, HB⟩ := hrel
    by_cases hcn : c < n
    · obtain ⟨A, off, rfl, hA, q0, hra⟩ := HA.out.step HB c hcn
      obtain ⟨B, of2, rfl, hB', r0, hrb⟩ := HC.out.step HB c hcn
      have hcI : (c : Int) < n := by omega
      have EL := fun w h h' => eqLoop_any (S c).1 (S' c).1 (L c) (S c).2 (S' c).2 (q c) (HL.out c hcn) w h h'
      have KS : (fun w' => w'.cell? ⟨A, off + c, none⟩ = some (.slice (S c).1 (L c) (S c).2) ∧ w'.cell? ⟨B, of2 + c, none⟩ = some (.slice (S' c).1 (L c) (S' c).2)) wr := ⟨q0, r0⟩
      go_wp2_with fail
      go_region_held3 (fun w' => w'.cell? ⟨A, off + c, none⟩ = some (.slice (S c).1 (L c) (S c).2) ∧ w'.cell? ⟨B, of2 + c, none⟩ = some (.slice (S' c).1 (L c) (S' c).2)) (first | (exact KS) | (exact KS'))
        (first
          | (go_at_call 34; refine (EL _ (by first | exact hra | exact hra.drew) (by first | exact hrb | exact hrb.drew)).mono ?_; rintro e w1 ⟨rfl, hB⟩; have KS' : (fun w' => w'.cell? ⟨A, off + c, none⟩ = some (.slice (S c).1 (L c) (S c).2) ∧ w'.cell? ⟨B, of2 + c, none⟩ = some (.slice (S' c).1 (L c) (S' c).2)) w1 := ⟨(hB.cell (p := ⟨A, _, none⟩) hA).trans q0, (hB.cell (p := ⟨B, _, none⟩) hB').trans r0⟩; (first | (have HB2 := HB.trans (hB.mono HB.size)) | (have HB2 := HB.drew.trans (hB.mono HB.drew.size))); clear hB))
      all_goals clear HB KS q0 r0 hra hrb EL
      all_goals go_wp2
      all_goals go_roundw
      case rel => exact ⟨c + 1, by omega, by go_num, HB2⟩
      case measure => simp [intOf]; omega
    · obtain rfl : c = n := by omega
      clear HA HC HL
      go_wp2
      go_ret
      exact ⟨rfl, HB⟩
theorem szPointS_any (ao : Option Addr) (m cap : Nat) (l : Int) (h0 : 0 ≤ l) (h1 : l ≤ 1048576) (hm : m ≤ 9223372036854775807) (w : World) : Calls Try.prog 52 #[.slice ao m cap, .int .i64 l] w (VP (.int .i64 (if (m : Int) ≤ l then l - m else -1)) w) := by
  have hmI : (m : Int) ≤ 9223372036854775807 := by omega
  by_cases h : (m : Int) ≤ l
  · rw [if_pos h]
    go_enter Try.func52, Try.ntmps52
    go_wp2
    go_ret
    exact ⟨rfl, Below.refl _ _⟩
  · rw [if_neg h]
    have h' : l < (m : Int) := by omega
    go_enter Try.func52, Try.ntmps52
    go_wp2
    go_ret
    exact ⟨rfl, Below.refl _ _⟩
theorem szLoop_any (ao : Option Addr) (m cap : Nat) (l : Int) (h0 : 0 ≤ l) (h1 : l ≤ 1048576) (hm : m ≤ 9223372036854775807) (w : World) : Calls Try.prog 22 #[.agg #[.slice ao m cap], .int .i64 l] w (VP (.int .i64 (if (m : Int) ≤ l then l - m else -1)) w) := by
  have HB : Below w.heap.size w (w.alloc (.cells #[.slice ao m cap] 57)) := (Below.refl _ w).alloc (Nat.le_refl _) _
  have B0 := Blk.new w [.slice ao m cap] 57 rfl
  have SP := szPointS_any ao m cap l h0 h1 hm
  go_enter Try.func22, Try.ntmps22
  have b0 := B0.c 0 rfl
  by_cases h : (m : Int) ≤ l
  · rw [if_pos h] at SP ⊢
    go_wp2_with fail
    refine (SP _).mono ?_
    rintro e w1 ⟨rfl, hB⟩
    replace HB := HB.trans (hB.mono HB.size)
    clear hB SP B0 b0
    have h2 : 0 ≤ l - (m : Int) := by omega
    go_wp2
    go_ret
    exact ⟨rfl, HB⟩
  · rw [if_neg h] at SP ⊢
    go_wp2_with fail
    refine (SP _).mono ?_
    rintro e w1 ⟨rfl, hB⟩
    replace HB := HB.trans (hB.mono HB.size)
    clear hB SP B0 b0
    go_wp2
    go_ret
    exact ⟨rfl, HB⟩
/-- What is left of the count, if it is not below 0. -/
def SzP (n : Nat) (L : Nat → Nat) (w : World) (e : Ending) (w' : World) : Prop := ∃ z : Int, e = .returned (.int .i64 z) ∧ -1 ≤ z ∧ z ≤ 1048576 ∧ (0 ≤ z → n ≤ 1048576 ∧ ∀ i, i < n → L i ≤ 1048576) ∧ Below w.heap.size w w'
set_option maxRecDepth 100000 in
set_option maxHeartbeats 2000000 in
theorem szLoopS_any (ao : Option Addr) (n cap : Nat) (S : Nat → Option Addr × Nat) (L : Nat → Nat) (q : Nat → Qs) (hn : n ≤ 9223372036854775807) (hL : ∀ i, i < n → L i ≤ 9223372036854775807) (w : World) (hS : LpIn w ao n S L q) : Calls Try.prog 6 #[.slice ao n cap, .int .i64 1048576] w (SzP n L w) := by
  have hnI : (n : Int) ≤ 9223372036854775807 := by omega
  by_cases h : n ≤ 1048576
  · have h' : (n : Int) ≤ 1048576 := by omega
    have HS : Hid (LpIn w ao n S L q) := hS
    have HL : Hid (∀ i, i < n → L i ≤ 9223372036854775807) := hL
    clear hS hL
    go_enter Try.func6, Try.ntmps6
    go_wp2_with fail
    go_loopw [1, 5] (fun s i wr => ∃ (c : Nat) (l : Int), c ≤ n ∧ i = .int .i64 c ∧ s = .int .i64 l ∧ 0 ≤ l ∧ l ≤ 1048576 ∧ (∀ j, j < c → L j ≤ 1048576) ∧ Below w.heap.size w wr) (fun _ i _ => n - (intOf i).toNat)
    case atStart => exact ⟨0, _, by omega, rfl, rfl, by omega, by omega, fun j hj => by omega, Below.refl _ _⟩
    case round =>
      obtain ⟨c, l, hc, rfl, rfl, l0, l1, hall, HB⟩ := hrel
      have HA : Hid (∀ j, j < c → L j ≤ 1048576) := hall
      clear hall
      by_cases hcn : c < n
      · obtain ⟨A, off, rfl, hA, hcell, -⟩ := HS.out.step HB c hcn
        have hcI : (c : Int) < n := by omega
        have SL := szLoop_any (S c).1 (L c) (S c).2 l l0 l1 (HL.out c hcn)
        go_wp2_with fail
        refine (SL _).mono ?_
        rintro e w1 ⟨rfl, hB⟩
        replace HB := HB.trans (hB.mono HB.size)
        clear hB SL hcell hA
        by_cases hl : (L c : Int) ≤ l
        · rw [if_pos hl]
          have hl2 : 0 ≤ l - (L c : Int) := by omega
          go_wp2
          go_roundw
          case rel => exact ⟨c + 1, _, by omega, by go_num, rfl, by omega, by omega, fun j hj => by
            rcases Nat.lt_or_ge j c with h | h
            · exact HA.out j h
            · obtain rfl : j = c := by omega
              omega, HB⟩
          case measure => simp [intOf]; omega
        · rw [if_neg hl]
          go_wp2
          go_ret
          exact ⟨-1, rfl, by omega, by omega, fun h => by omega, HB⟩
      · obtain rfl : c = n := by omega
        clear HS HL
        go_wp2
        go_ret
        exact ⟨l, rfl, by omega, l1, fun _ => ⟨h, HA.out⟩, HB⟩
  · have h' : (1048576 : Int) < n := by omega
    clear hS hL
    go_enter Try.func6, Try.ntmps6
    go_wp2
    go_ret
    exact ⟨-1, rfl, by omega, by omega, fun h => by omega, Below.refl _ _⟩
end Go.Proofs.Ytofjlobbohfacaa

/- How a point lies to loops: the law. -/
namespace Go.Proofs.Ytofjlobbohfacaa
open Go.RowKit
theorem LpIn.drew {w : World} {ao : Option Addr} {n : Nat} {S : Nat → Option Addr × Nat} {L : Nat → Nat} {q : Nat → Qs} (h : LpIn w ao n S L q) : LpIn w.drew ao n S L q := h
theorem pp_one {a b c : Int} {W w : World} (B0 : Blk W w.heap.size [.int .u64 (ww3 a), .int .u64 (ww2 a), .int .u64 (ww1 a), .int .u64 (ww0 a), .int .u64 (ww3 b), .int .u64 (ww2 b), .int .u64 (ww1 b), .int .u64 (ww0 b), .int .u64 (ww3 c), .int .u64 (ww2 c), .int .u64 (ww1 c), .int .u64 (ww0 c)]) : (fun w' => w'.cell? ⟨w.heap.size, 0, none⟩ = some (.int .u64 (ww3 a)) ∧ w'.cell? ⟨w.heap.size, 1, none⟩ = some (.int .u64 (ww2 a)) ∧ w'.cell? ⟨w.heap.size, 2, none⟩ = some (.int .u64 (ww1 a)) ∧ w'.cell? ⟨w.heap.size, 3, none⟩ = some (.int .u64 (ww0 a)) ∧ w'.cell? ⟨w.heap.size, 4, none⟩ = some (.int .u64 (ww3 b)) ∧ w'.cell? ⟨w.heap.size, 5, none⟩ = some (.int .u64 (ww2 b)) ∧ w'.cell? ⟨w.heap.size, 6, none⟩ = some (.int .u64 (ww1 b)) ∧ w'.cell? ⟨w.heap.size, 7, none⟩ = some (.int .u64 (ww0 b)) ∧ w'.cell? ⟨w.heap.size, 8, none⟩ = some (.int .u64 (ww3 c)) ∧ w'.cell? ⟨w.heap.size, 9, none⟩ = some (.int .u64 (ww2 c)) ∧ w'.cell? ⟨w.heap.size, 10, none⟩ = some (.int .u64 (ww1 c)) ∧ w'.cell? ⟨w.heap.size, 11, none⟩ = some (.int .u64 (ww0 c))) W := ⟨B0.c 0 rfl, B0.c 1 rfl, B0.c 2 rfl, B0.c 3 rfl, B0.c 4 rfl, B0.c 5 rfl, B0.c 6 rfl, B0.c 7 rfl, B0.c 8 rfl, B0.c 9 rfl, B0.c 10 rfl, B0.c 11 rfl⟩
set_option maxRecDepth 100000 in
set_option maxHeartbeats 8000000 in
theorem lawLoopsSide_any (ao : Option Addr) (n cap : Nat) (S : Nat → Option Addr × Nat) (L : Nat → Nat) (q : Nat → Qs) (a b c : Int) (ta : told a = true) (tb : told b = true) (tc : told c = true) (hn : n ≤ 9223372036854775807) (hL : ∀ i, i < n → L i ≤ 9223372036854775807) (hT : ToldQ n L q) (w : World) (hS : LpIn w ao n S L q) : Calls Try.prog 3 #[.slice ao n cap, PV a b c] w (BoolP true w) := by
  have B0 := Blk.new w [.int .u64 (ww3 a), .int .u64 (ww2 a), .int .u64 (ww1 a), .int .u64 (ww0 a), .int .u64 (ww3 b), .int .u64 (ww2 b), .int .u64 (ww1 b), .int .u64 (ww0 b), .int .u64 (ww3 c), .int .u64 (ww2 c), .int .u64 (ww1 c), .int .u64 (ww0 c)] 27 rfl
  have HB : Below w.heap.size w (w.alloc (.cells #[.int .u64 (ww3 a), .int .u64 (ww2 a), .int .u64 (ww1 a), .int .u64 (ww0 a), .int .u64 (ww3 b), .int .u64 (ww2 b), .int .u64 (ww1 b), .int .u64 (ww0 b), .int .u64 (ww3 c), .int .u64 (ww2 c), .int .u64 (ww1 c), .int .u64 (ww0 c)] 27)) := (Below.refl _ w).alloc (Nat.le_refl _) _
  have HS := hS.step HB
  have SZ := fun w h => szLoopS_any ao n cap S L q hn hL w h
  clear hS hL hn
  go_enter Try.func3, Try.ntmps3
  go_upto_region 1 with fail
  generalize w.alloc (.cells #[.int .u64 (ww3 a), .int .u64 (ww2 a), .int .u64 (ww1 a), .int .u64 (ww0 a), .int .u64 (ww3 b), .int .u64 (ww2 b), .int .u64 (ww1 b), .int .u64 (ww0 b), .int .u64 (ww3 c), .int .u64 (ww2 c), .int .u64 (ww1 c), .int .u64 (ww0 c)] 27) = W1 at *
  go_wp2_with fail
  refine (SZ _ HS).mono ?_
  rintro e w1 ⟨z, rfl, z0, z1, hz, hB⟩
  replace HB := HB.trans (hB.mono HB.size)
  replace HS := HS.step hB
  replace B0 := B0.step hB
  clear hB SZ
  by_cases hz0 : 0 ≤ z
  · obtain ⟨hn, hL⟩ := hz hz0
    have T1 := fun w => toLoopS_any ao n cap S L q hn hL w
    have TP := toPoint_det a b c
    have SP := fun ao S w h => specLoopsSide_any ao n n S L q a b c ta tb tc w h hT hL
    have IM := fun ao S w h => implLoopsSide_any ao n n S L q a b c ta tb tc w h hT hL
    have EQ := fun ao bo S S' w h h' => eqLoopS_any ao bo n n n S S' L q hn hL w h h'
    generalize lsV n L q a b c = o at *
    have hoo : (o == o) = true := by simp
    clear hz hT hL ta tb tc
    go_upto_region 5 with fail
    go_region_held3 (fun w' => w'.cell? ⟨w.heap.size, 0, none⟩ = some (.int .u64 (ww3 a)) ∧ w'.cell? ⟨w.heap.size, 1, none⟩ = some (.int .u64 (ww2 a)) ∧ w'.cell? ⟨w.heap.size, 2, none⟩ = some (.int .u64 (ww1 a)) ∧ w'.cell? ⟨w.heap.size, 3, none⟩ = some (.int .u64 (ww0 a)) ∧ w'.cell? ⟨w.heap.size, 4, none⟩ = some (.int .u64 (ww3 b)) ∧ w'.cell? ⟨w.heap.size, 5, none⟩ = some (.int .u64 (ww2 b)) ∧ w'.cell? ⟨w.heap.size, 6, none⟩ = some (.int .u64 (ww1 b)) ∧ w'.cell? ⟨w.heap.size, 7, none⟩ = some (.int .u64 (ww0 b)) ∧ w'.cell? ⟨w.heap.size, 8, none⟩ = some (.int .u64 (ww3 c)) ∧ w'.cell? ⟨w.heap.size, 9, none⟩ = some (.int .u64 (ww2 c)) ∧ w'.cell? ⟨w.heap.size, 10, none⟩ = some (.int .u64 (ww1 c)) ∧ w'.cell? ⟨w.heap.size, 11, none⟩ = some (.int .u64 (ww0 c))) (first | (with_reducible exact pp_one B0) | (with_reducible exact pp_one B0.drew))
      (first
        | (go_at_call 8; refine (T1 _ (by first | (with_reducible exact HS) | (with_reducible exact LpIn.drew HS))).mono ?_; rintro e w2 ⟨g1, S1, rfl, R1, hB⟩; (first | (have HB2 := HB.trans (hB.mono HB.size); have HS2 := HS.step hB; have B2 := B0.step hB) | (have HB2 := HB.drew.trans (hB.mono HB.drew.size); have HS2 := (LpIn.drew HS).step hB; have B2 := B0.drew.step hB)); clear hB HB HS B0; have HB := HB2; have HS := HS2; have B0 := B2; clear HB2 HS2 B2)
        | (go_at_call 9; refine (TP _).mono ?_; rintro e w3 ⟨rfl, hB⟩; (first | (have HB2 := HB.trans (hB.mono HB.size); have HS2 := HS.step hB; have B2 := B0.step hB; have R2 := R1.step hB) | (have HB2 := HB.drew.trans (hB.mono HB.drew.size); have HS2 := (LpIn.drew HS).step hB; have B2 := B0.drew.step hB; have R2 := (LpIn.drew R1).step hB)); clear hB HB HS B0; have HB := HB2; have HS := HS2; have B0 := B2; clear HB2 HS2 B2; clear R1; have R1 := R2; clear R2)
        | (go_at_call 7; refine (SP _ _ _ (by first | (with_reducible exact R1) | (with_reducible exact LpIn.drew R1))).mono ?_; rintro e w4 ⟨rfl, hB⟩; (first | (have HB2 := HB.trans (hB.mono HB.size); have HS2 := HS.step hB; have B2 := B0.step hB) | (have HB2 := HB.drew.trans (hB.mono HB.drew.size); have HS2 := (LpIn.drew HS).step hB; have B2 := B0.drew.step hB)); clear hB HB HS B0; have HB := HB2; have HS := HS2; have B0 := B2; clear HB2 HS2 B2; clear R1))
    all_goals clear SP
    all_goals go_wp2_with fail
    all_goals refine (T1 _ (by first | exact HS | exact LpIn.drew HS)).mono ?_
    all_goals rintro e w5 ⟨g2, S2, rfl, R2, hB⟩
    all_goals (first | (have HB2 := HB.trans (hB.mono HB.size); have HS2 := HS.step hB; have B2 := B0.step hB) | (have HB2 := HB.drew.trans (hB.mono HB.drew.size); have HS2 := (LpIn.drew HS).step hB; have B2 := B0.drew.step hB)); clear hB HB HS B0; have HB := HB2; have HS := HS2; have B0 := B2; clear HB2 HS2 B2
    all_goals have p0 := B0.c 0 rfl; have p1 := B0.c 1 rfl; have p2 := B0.c 2 rfl; have p3 := B0.c 3 rfl; have p4 := B0.c 4 rfl; have p5 := B0.c 5 rfl; have p6 := B0.c 6 rfl; have p7 := B0.c 7 rfl; have p8 := B0.c 8 rfl; have p9 := B0.c 9 rfl; have p10 := B0.c 10 rfl; have p11 := B0.c 11 rfl
    all_goals go_wp2_with fail
    all_goals refine (TP _).mono ?_
    all_goals rintro e w6 ⟨rfl, hB⟩
    all_goals replace R2 := R2.step hB
    all_goals (first | (have HB2 := HB.trans (hB.mono HB.size); have HS2 := HS.step hB; have B2 := B0.step hB) | (have HB2 := HB.drew.trans (hB.mono HB.drew.size); have HS2 := (LpIn.drew HS).step hB; have B2 := B0.drew.step hB)); clear hB HB HS B0; have HB := HB2; have HS := HS2; have B0 := B2; clear HB2 HS2 B2
    all_goals clear p0 p1 p2 p3 p4 p5 p6 p7 p8 p9 p10 p11
    all_goals go_wp2_with fail
    all_goals refine (IM _ _ _ R2).mono ?_
    all_goals rintro e w7 ⟨rfl, hB⟩
    all_goals replace R2 := R2.step hB
    all_goals (first | (have HB2 := HB.trans (hB.mono HB.size); have HS2 := HS.step hB; have B2 := B0.step hB) | (have HB2 := HB.drew.trans (hB.mono HB.drew.size); have HS2 := (LpIn.drew HS).step hB; have B2 := B0.drew.step hB)); clear hB HB HS B0; have HB := HB2; have HS := HS2; have B0 := B2; clear HB2 HS2 B2
    all_goals clear IM
    all_goals go_wp2_with fail
    all_goals refine (T1 _ HS).mono ?_
    all_goals rintro e w8 ⟨g3, S3, rfl, R3, hB⟩
    all_goals replace R2 := R2.step hB
    all_goals (first | (have HB2 := HB.trans (hB.mono HB.size); have HS2 := HS.step hB; have B2 := B0.step hB) | (have HB2 := HB.drew.trans (hB.mono HB.drew.size); have HS2 := (LpIn.drew HS).step hB; have B2 := B0.drew.step hB)); clear hB HB HS B0; have HB := HB2; have HS := HS2; have B0 := B2; clear HB2 HS2 B2
    all_goals clear HS T1
    all_goals go_wp2_with fail
    all_goals refine (EQ _ _ _ _ _ R2 R3).mono ?_
    all_goals rintro e w9 ⟨rfl, hB⟩
    all_goals replace HB := HB.trans (hB.mono HB.size)
    all_goals clear hB R2 R3 EQ B0
    all_goals go_wp2
    all_goals go_ret
    all_goals exact ⟨rfl, HB⟩
  · clear hz hT
    have hz' : z < 0 := by omega
    go_wp2
    go_ret
    exact ⟨rfl, HB⟩
end Go.Proofs.Ytofjlobbohfacaa

/- What the row of a law asks of the program as a whole, each by itself. -/
namespace Go.Proofs.Ytofjlobbohfacaa
open Go.ChangeShapes Go.WideShapes Go.ChangeAt Go.RowKit Go.Joins
theorem jn_laid : laidOutB Try.pinned.checked.prog = true := by kernel_rfl
theorem jn_maps : mapsRowed Try.pinned.checked.prog = true := by kernel_rfl
theorem jn_enter : Try.pinned.checked.prog.mayEnter = true := by kernel_rfl
theorem jn_heard : Try.pinned.checked.prog.stopsHeard = true := by kernel_rfl
end Go.Proofs.Ytofjlobbohfacaa
