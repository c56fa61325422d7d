/- Part 12 of the walks that the proof leans on. -/
import Derived.Test.YtppbfdpdcgjfcaaPart11
import Derived.Test.YtppbfdpdcgjfcaaPart7
import Derived.Test.YtppbfdpdcgjfcaaPart1
import Derived.Test.YtppbfdpdcgjfcaaRows
import Derived.ProofKit
import Derived.Lib.SmallJoins
import Derived.Deep.Strs
/- Points in their order and their turns: the model's walks. -/
namespace Go.Proofs.Ytppbfdpdcgjfcaa
open Go.RowKit
theorem m2_cells {ps1 ps2 ps3 : Bool} {po1 po2 po3 : Option Addr} {pn1 pc1 pn2 pc2 pn3 pc3 : Nat} {qs1 qs2 qs3 : Bool} {qo1 qo2 qo3 : Option Addr} {qn1 qc1 qn2 qc2 qn3 qc3 : Nat} {w W : World} (T0 : ArgsB w W [[.bool ps1, .slice po1 pn1 pc1, .bool ps2, .slice po2 pn2 pc2, .bool ps3, .slice po3 pn3 pc3], [.bool qs1, .slice qo1 qn1 qc1, .bool qs2, .slice qo2 qn2 qc2, .bool qs3, .slice qo3 qn3 qc3]]) : (fun w' => w'.cell? ⟨w.heap.size, 0, none⟩ = some (.bool ps1) ∧ w'.cell? ⟨w.heap.size, 1, none⟩ = some (.slice po1 pn1 pc1) ∧ w'.cell? ⟨w.heap.size, 2, none⟩ = some (.bool ps2) ∧ w'.cell? ⟨w.heap.size, 3, none⟩ = some (.slice po2 pn2 pc2) ∧ w'.cell? ⟨w.heap.size, 4, none⟩ = some (.bool ps3) ∧ w'.cell? ⟨w.heap.size, 5, none⟩ = some (.slice po3 pn3 pc3) ∧ w'.cell? ⟨w.heap.size + 1, 0, none⟩ = some (.bool qs1) ∧ w'.cell? ⟨w.heap.size + 1, 1, none⟩ = some (.slice qo1 qn1 qc1) ∧ w'.cell? ⟨w.heap.size + 1, 2, none⟩ = some (.bool qs2) ∧ w'.cell? ⟨w.heap.size + 1, 3, none⟩ = some (.slice qo2 qn2 qc2) ∧ w'.cell? ⟨w.heap.size + 1, 4, none⟩ = some (.bool qs3) ∧ w'.cell? ⟨w.heap.size + 1, 5, none⟩ = some (.slice qo3 qn3 qc3)) W := ⟨(T0.b 0 rfl).c 0 rfl, (T0.b 0 rfl).c 1 rfl, (T0.b 0 rfl).c 2 rfl, (T0.b 0 rfl).c 3 rfl, (T0.b 0 rfl).c 4 rfl, (T0.b 0 rfl).c 5 rfl, (T0.b 1 rfl).c 0 rfl, (T0.b 1 rfl).c 1 rfl, (T0.b 1 rfl).c 2 rfl, (T0.b 1 rfl).c 3 rfl, (T0.b 1 rfl).c 4 rfl, (T0.b 1 rfl).c 5 rfl⟩
set_option maxRecDepth 100000 in
set_option maxHeartbeats 2000000 in
theorem l3CmpX_any (ps1 ps2 ps3 : Bool) (po1 po2 po3 : Option Addr) (pn1 pc1 pn2 pc2 pn3 pc3 : Nat) (qs1 qs2 qs3 : Bool) (qo1 qo2 qo3 : Option Addr) (qn1 qc1 qn2 qc2 qn3 qc3 : Nat) (pd1 pd3 qd1 qd3 : List Int) (x z u t : Int) (k : Nat) (hk : k ≤ 1000) (w : World) (Np1 : IsNum w ps1 po1 pn1 pc1 pd1 x k) (Np3 : IsNum w ps3 po3 pn3 pc3 pd3 z k) (Nq1 : IsNum w qs1 qo1 qn1 qc1 qd1 u k) (Nq3 : IsNum w qs3 qo3 qn3 qc3 qd3 t k) : Calls Try.prog 105 #[.agg #[.bool ps1, .slice po1 pn1 pc1, .bool ps2, .slice po2 pn2 pc2, .bool ps3, .slice po3 pn3 pc3], .agg #[.bool qs1, .slice qo1 qn1 qc1, .bool qs2, .slice qo2 qn2 qc2, .bool qs3, .slice qo3 qn3 qc3]] w (VP (.int .i64 (cmpI (x * t) (u * z))) w) := by
  have T0 : ArgsB w ((w.alloc (.cells #[.bool ps1, .slice po1 pn1 pc1, .bool ps2, .slice po2 pn2 pc2, .bool ps3, .slice po3 pn3 pc3] 84)).alloc (.cells #[.bool qs1, .slice qo1 qn1 qc1, .bool qs2, .slice qo2 qn2 qc2, .bool qs3, .slice qo3 qn3 qc3] 84)) [[.bool ps1, .slice po1 pn1 pc1, .bool ps2, .slice po2 pn2 pc2, .bool ps3, .slice po3 pn3 pc3], [.bool qs1, .slice qo1 qn1 qc1, .bool qs2, .slice qo2 qn2 qc2, .bool qs3, .slice qo3 qn3 qc3]] := ar2 _ _ _ _ w
  replace Np1 := (Np1.below T0.below).drew
  replace Np3 := (Np3.below T0.below).drew
  replace Nq1 := (Nq1.below T0.below).drew
  replace Nq3 := (Nq3.below T0.below).drew
  have tok1 : True := trivial
  go_enter Try.func105, Try.ntmps105
  go_upto_region 1 with fail
  generalize ((w.alloc (.cells #[.bool ps1, .slice po1 pn1 pc1, .bool ps2, .slice po2 pn2 pc2, .bool ps3, .slice po3 pn3 pc3] 84)).alloc (.cells #[.bool qs1, .slice qo1 qn1 qc1, .bool qs2, .slice qo2 qn2 qc2, .bool qs3, .slice qo3 qn3 qc3] 84)) = W at *
  go_region_held3 (fun w' => w'.cell? ⟨w.heap.size, 0, none⟩ = some (.bool ps1) ∧ w'.cell? ⟨w.heap.size, 1, none⟩ = some (.slice po1 pn1 pc1) ∧ w'.cell? ⟨w.heap.size, 2, none⟩ = some (.bool ps2) ∧ w'.cell? ⟨w.heap.size, 3, none⟩ = some (.slice po2 pn2 pc2) ∧ w'.cell? ⟨w.heap.size, 4, none⟩ = some (.bool ps3) ∧ w'.cell? ⟨w.heap.size, 5, none⟩ = some (.slice po3 pn3 pc3) ∧ w'.cell? ⟨w.heap.size + 1, 0, none⟩ = some (.bool qs1) ∧ w'.cell? ⟨w.heap.size + 1, 1, none⟩ = some (.slice qo1 qn1 qc1) ∧ w'.cell? ⟨w.heap.size + 1, 2, none⟩ = some (.bool qs2) ∧ w'.cell? ⟨w.heap.size + 1, 3, none⟩ = some (.slice qo2 qn2 qc2) ∧ w'.cell? ⟨w.heap.size + 1, 4, none⟩ = some (.bool qs3) ∧ w'.cell? ⟨w.heap.size + 1, 5, none⟩ = some (.slice qo3 qn3 qc3)) (first | (with_reducible exact m2_cells T0) | (with_reducible exact m2_cells T0.drew))
    (first
      | (go_at_call 80; have _t := tok1; refine (mul_any ps1 qs3 po1 qo3 pn1 qn3 pc1 qc3 (k) pd1 qd3 _ _ _ Np1 Nq3 (by omega)).mono ?_; rintro e w1 ⟨fs, fo, fn, fc, fd, rfl, Nf, hB⟩; (first | (have T1 := T0.step hB) | (have T1 := T0.drew.step hB)); clear T0; have T0 := T1; clear T1; replace Np3 := Np3.below hB; replace Nq1 := Nq1.below hB; clear hB tok1 _t)
      | (go_at_call 80; refine (mul_any qs1 ps3 qo1 po3 qn1 pn3 qc1 pc3 (k) qd1 pd3 _ _ _ Nq1 Np3 (by omega)).mono ?_; rintro e w2 ⟨gs, go, gn, gc, gd, rfl, Ng, hB⟩; (first | (have T1 := T0.step hB) | (have T1 := T0.drew.step hB)); clear T0; have T0 := T1; clear T1; replace Nf := Nf.below hB; clear hB)
      | (go_at_call 60; refine (cmp_any fs gs fo go fn gn fc gc (k + k) fd gd _ _ _ Nf Ng (by omega)).mono ?_; rintro e w3 ⟨rfl, hB⟩; (first | (have T1 := T0.step hB) | (have T1 := T0.drew.step hB)); clear T0; have T0 := T1; clear T1; clear hB))
  all_goals have HB := T0.below
  all_goals clear T0
  all_goals go_wp2
  all_goals go_ret
  all_goals exact ⟨rfl, by first | exact HB | exact HB.drew⟩
set_option maxRecDepth 100000 in
set_option maxHeartbeats 2000000 in
theorem l3CmpY_any (ps1 ps2 ps3 : Bool) (po1 po2 po3 : Option Addr) (pn1 pc1 pn2 pc2 pn3 pc3 : Nat) (qs1 qs2 qs3 : Bool) (qo1 qo2 qo3 : Option Addr) (qn1 qc1 qn2 qc2 qn3 qc3 : Nat) (pd2 pd3 qd2 qd3 : List Int) (y z v t : Int) (k : Nat) (hk : k ≤ 1000) (w : World) (Np2 : IsNum w ps2 po2 pn2 pc2 pd2 y k) (Np3 : IsNum w ps3 po3 pn3 pc3 pd3 z k) (Nq2 : IsNum w qs2 qo2 qn2 qc2 qd2 v k) (Nq3 : IsNum w qs3 qo3 qn3 qc3 qd3 t k) : Calls Try.prog 106 #[.agg #[.bool ps1, .slice po1 pn1 pc1, .bool ps2, .slice po2 pn2 pc2, .bool ps3, .slice po3 pn3 pc3], .agg #[.bool qs1, .slice qo1 qn1 qc1, .bool qs2, .slice qo2 qn2 qc2, .bool qs3, .slice qo3 qn3 qc3]] w (VP (.int .i64 (cmpI (y * t) (v * z))) w) := by
  have T0 : ArgsB w ((w.alloc (.cells #[.bool ps1, .slice po1 pn1 pc1, .bool ps2, .slice po2 pn2 pc2, .bool ps3, .slice po3 pn3 pc3] 84)).alloc (.cells #[.bool qs1, .slice qo1 qn1 qc1, .bool qs2, .slice qo2 qn2 qc2, .bool qs3, .slice qo3 qn3 qc3] 84)) [[.bool ps1, .slice po1 pn1 pc1, .bool ps2, .slice po2 pn2 pc2, .bool ps3, .slice po3 pn3 pc3], [.bool qs1, .slice qo1 qn1 qc1, .bool qs2, .slice qo2 qn2 qc2, .bool qs3, .slice qo3 qn3 qc3]] := ar2 _ _ _ _ w
  replace Np2 := (Np2.below T0.below).drew
  replace Np3 := (Np3.below T0.below).drew
  replace Nq2 := (Nq2.below T0.below).drew
  replace Nq3 := (Nq3.below T0.below).drew
  have tok1 : True := trivial
  go_enter Try.func106, Try.ntmps106
  go_upto_region 1 with fail
  generalize ((w.alloc (.cells #[.bool ps1, .slice po1 pn1 pc1, .bool ps2, .slice po2 pn2 pc2, .bool ps3, .slice po3 pn3 pc3] 84)).alloc (.cells #[.bool qs1, .slice qo1 qn1 qc1, .bool qs2, .slice qo2 qn2 qc2, .bool qs3, .slice qo3 qn3 qc3] 84)) = W at *
  go_region_held3 (fun w' => w'.cell? ⟨w.heap.size, 0, none⟩ = some (.bool ps1) ∧ w'.cell? ⟨w.heap.size, 1, none⟩ = some (.slice po1 pn1 pc1) ∧ w'.cell? ⟨w.heap.size, 2, none⟩ = some (.bool ps2) ∧ w'.cell? ⟨w.heap.size, 3, none⟩ = some (.slice po2 pn2 pc2) ∧ w'.cell? ⟨w.heap.size, 4, none⟩ = some (.bool ps3) ∧ w'.cell? ⟨w.heap.size, 5, none⟩ = some (.slice po3 pn3 pc3) ∧ w'.cell? ⟨w.heap.size + 1, 0, none⟩ = some (.bool qs1) ∧ w'.cell? ⟨w.heap.size + 1, 1, none⟩ = some (.slice qo1 qn1 qc1) ∧ w'.cell? ⟨w.heap.size + 1, 2, none⟩ = some (.bool qs2) ∧ w'.cell? ⟨w.heap.size + 1, 3, none⟩ = some (.slice qo2 qn2 qc2) ∧ w'.cell? ⟨w.heap.size + 1, 4, none⟩ = some (.bool qs3) ∧ w'.cell? ⟨w.heap.size + 1, 5, none⟩ = some (.slice qo3 qn3 qc3)) (first | (with_reducible exact m2_cells T0) | (with_reducible exact m2_cells T0.drew))
    (first
      | (go_at_call 80; have _t := tok1; refine (mul_any ps2 qs3 po2 qo3 pn2 qn3 pc2 qc3 (k) pd2 qd3 _ _ _ Np2 Nq3 (by omega)).mono ?_; rintro e w1 ⟨fs, fo, fn, fc, fd, rfl, Nf, hB⟩; (first | (have T1 := T0.step hB) | (have T1 := T0.drew.step hB)); clear T0; have T0 := T1; clear T1; replace Np3 := Np3.below hB; replace Nq2 := Nq2.below hB; clear hB tok1 _t)
      | (go_at_call 80; refine (mul_any qs2 ps3 qo2 po3 qn2 pn3 qc2 pc3 (k) qd2 pd3 _ _ _ Nq2 Np3 (by omega)).mono ?_; rintro e w2 ⟨gs, go, gn, gc, gd, rfl, Ng, hB⟩; (first | (have T1 := T0.step hB) | (have T1 := T0.drew.step hB)); clear T0; have T0 := T1; clear T1; replace Nf := Nf.below hB; clear hB)
      | (go_at_call 60; refine (cmp_any fs gs fo go fn gn fc gc (k + k) fd gd _ _ _ Nf Ng (by omega)).mono ?_; rintro e w3 ⟨rfl, hB⟩; (first | (have T1 := T0.step hB) | (have T1 := T0.drew.step hB)); clear T0; have T0 := T1; clear T1; clear hB))
  all_goals have HB := T0.below
  all_goals clear T0
  all_goals go_wp2
  all_goals go_ret
  all_goals exact ⟨rfl, by first | exact HB | exact HB.drew⟩
set_option maxRecDepth 100000 in
set_option maxHeartbeats 2000000 in
theorem l3Cmp_any (ps1 ps2 ps3 : Bool) (po1 po2 po3 : Option Addr) (pn1 pc1 pn2 pc2 pn3 pc3 : Nat) (qs1 qs2 qs3 : Bool) (qo1 qo2 qo3 : Option Addr) (qn1 qc1 qn2 qc2 qn3 qc3 : Nat) (pd1 pd2 pd3 qd1 qd2 qd3 : List Int) (x y z u v t : Int) (k : Nat) (hk : k ≤ 1000) (w : World) (Np1 : IsNum w ps1 po1 pn1 pc1 pd1 x k) (Np2 : IsNum w ps2 po2 pn2 pc2 pd2 y k) (Np3 : IsNum w ps3 po3 pn3 pc3 pd3 z k) (Nq1 : IsNum w qs1 qo1 qn1 qc1 qd1 u k) (Nq2 : IsNum w qs2 qo2 qn2 qc2 qd2 v k) (Nq3 : IsNum w qs3 qo3 qn3 qc3 qd3 t k) : Calls Try.prog 73 #[.agg #[.bool ps1, .slice po1 pn1 pc1, .bool ps2, .slice po2 pn2 pc2, .bool ps3, .slice po3 pn3 pc3], .agg #[.bool qs1, .slice qo1 qn1 qc1, .bool qs2, .slice qo2 qn2 qc2, .bool qs3, .slice qo3 qn3 qc3]] w (VP (.int .i64 (ordI x y z u v t)) w) := by
  have T0 : ArgsB w ((w.alloc (.cells #[.bool ps1, .slice po1 pn1 pc1, .bool ps2, .slice po2 pn2 pc2, .bool ps3, .slice po3 pn3 pc3] 84)).alloc (.cells #[.bool qs1, .slice qo1 qn1 qc1, .bool qs2, .slice qo2 qn2 qc2, .bool qs3, .slice qo3 qn3 qc3] 84)) [[.bool ps1, .slice po1 pn1 pc1, .bool ps2, .slice po2 pn2 pc2, .bool ps3, .slice po3 pn3 pc3], [.bool qs1, .slice qo1 qn1 qc1, .bool qs2, .slice qo2 qn2 qc2, .bool qs3, .slice qo3 qn3 qc3]] := ar2 _ _ _ _ w
  replace Np1 := Np1.below T0.below
  replace Np2 := Np2.below T0.below
  replace Np3 := Np3.below T0.below
  replace Nq1 := Nq1.below T0.below
  replace Nq2 := Nq2.below T0.below
  replace Nq3 := Nq3.below T0.below
  have HO : Hid (ordI x y z u v t = if cmpI (x * t) (u * z) = 0 then cmpI (y * t) (v * z) else cmpI (x * t) (u * z)) := rfl
  go_enter Try.func73, Try.ntmps73
  go_wp2_with fail
  generalize ((w.alloc (.cells #[.bool ps1, .slice po1 pn1 pc1, .bool ps2, .slice po2 pn2 pc2, .bool ps3, .slice po3 pn3 pc3] 84)).alloc (.cells #[.bool qs1, .slice qo1 qn1 qc1, .bool qs2, .slice qo2 qn2 qc2, .bool qs3, .slice qo3 qn3 qc3] 84)) = W at *
  refine (l3CmpX_any ps1 ps2 ps3 po1 po2 po3 pn1 pc1 pn2 pc2 pn3 pc3 qs1 qs2 qs3 qo1 qo2 qo3 qn1 qc1 qn2 qc2 qn3 qc3 pd1 pd3 qd1 qd3 x z u t k hk _ Np1 Np3 Nq1 Nq3).mono ?_
  rintro e w1 ⟨rfl, hB⟩
  replace T0 := T0.step hB
  replace Np1 := Np1.below hB
  replace Np2 := Np2.below hB
  replace Np3 := Np3.below hB
  replace Nq1 := Nq1.below hB
  replace Nq2 := Nq2.below hB
  replace Nq3 := Nq3.below hB
  clear hB
  generalize cmpI (x * t) (u * z) = a at *
  by_cases ha : a = 0
  · subst ha
    have X0 : Blk _ w.heap.size _ := T0.b 0 rfl; have Y0 : Blk _ (w.heap.size + 1) _ := T0.b 1 rfl; have p0 := X0.c 0 rfl; have q0 := Y0.c 0 rfl; have p1 := X0.c 1 rfl; have q1 := Y0.c 1 rfl; have p2 := X0.c 2 rfl; have q2 := Y0.c 2 rfl; have p3 := X0.c 3 rfl; have q3 := Y0.c 3 rfl; have p4 := X0.c 4 rfl; have q4 := Y0.c 4 rfl; have p5 := X0.c 5 rfl; have q5 := Y0.c 5 rfl; clear X0 Y0
    go_wp2_with fail
    refine (l3CmpY_any ps1 ps2 ps3 po1 po2 po3 pn1 pc1 pn2 pc2 pn3 pc3 qs1 qs2 qs3 qo1 qo2 qo3 qn1 qc1 qn2 qc2 qn3 qc3 pd2 pd3 qd2 qd3 y z v t k hk _ Np2 Np3 Nq2 Nq3).mono ?_
    rintro e w2 ⟨rfl, hB⟩
    have HB := (T0.step hB).below
    clear hB T0 p0 q0 p1 q1 p2 q2 p3 q3 p4 q4 p5 q5 Np1 Np2 Np3 Nq1 Nq2 Nq3
    go_wp2
    go_ret
    exact ⟨by rw [HO.out]; rfl, HB⟩
  · have ha' : (a == 0) = false := beq_eq_false_iff_ne.2 ha
    have HB := T0.below
    clear T0 Np1 Np2 Np3 Nq1 Nq2 Nq3
    go_wp2
    go_ret
    exact ⟨by rw [HO.out, if_neg ha]; rfl, HB⟩
theorem pp_cells {x y z u v t : Int} {w W : World} (T0 : ArgsB w W [[.int .u64 (ww3 x), .int .u64 (ww2 x), .int .u64 (ww1 x), .int .u64 (ww0 x), .int .u64 (ww3 y), .int .u64 (ww2 y), .int .u64 (ww1 y), .int .u64 (ww0 y), .int .u64 (ww3 z), .int .u64 (ww2 z), .int .u64 (ww1 z), .int .u64 (ww0 z)], [.int .u64 (ww3 u), .int .u64 (ww2 u), .int .u64 (ww1 u), .int .u64 (ww0 u), .int .u64 (ww3 v), .int .u64 (ww2 v), .int .u64 (ww1 v), .int .u64 (ww0 v), .int .u64 (ww3 t), .int .u64 (ww2 t), .int .u64 (ww1 t), .int .u64 (ww0 t)]]) : (fun w' => w'.cell? ⟨w.heap.size, 0, none⟩ = some (.int .u64 (ww3 x)) ∧ w'.cell? ⟨w.heap.size, 1, none⟩ = some (.int .u64 (ww2 x)) ∧ w'.cell? ⟨w.heap.size, 2, none⟩ = some (.int .u64 (ww1 x)) ∧ w'.cell? ⟨w.heap.size, 3, none⟩ = some (.int .u64 (ww0 x)) ∧ w'.cell? ⟨w.heap.size, 4, none⟩ = some (.int .u64 (ww3 y)) ∧ w'.cell? ⟨w.heap.size, 5, none⟩ = some (.int .u64 (ww2 y)) ∧ w'.cell? ⟨w.heap.size, 6, none⟩ = some (.int .u64 (ww1 y)) ∧ w'.cell? ⟨w.heap.size, 7, none⟩ = some (.int .u64 (ww0 y)) ∧ w'.cell? ⟨w.heap.size, 8, none⟩ = some (.int .u64 (ww3 z)) ∧ w'.cell? ⟨w.heap.size, 9, none⟩ = some (.int .u64 (ww2 z)) ∧ w'.cell? ⟨w.heap.size, 10, none⟩ = some (.int .u64 (ww1 z)) ∧ w'.cell? ⟨w.heap.size, 11, none⟩ = some (.int .u64 (ww0 z)) ∧ w'.cell? ⟨w.heap.size + 1, 0, none⟩ = some (.int .u64 (ww3 u)) ∧ w'.cell? ⟨w.heap.size + 1, 1, none⟩ = some (.int .u64 (ww2 u)) ∧ w'.cell? ⟨w.heap.size + 1, 2, none⟩ = some (.int .u64 (ww1 u)) ∧ w'.cell? ⟨w.heap.size + 1, 3, none⟩ = some (.int .u64 (ww0 u)) ∧ w'.cell? ⟨w.heap.size + 1, 4, none⟩ = some (.int .u64 (ww3 v)) ∧ w'.cell? ⟨w.heap.size + 1, 5, none⟩ = some (.int .u64 (ww2 v)) ∧ w'.cell? ⟨w.heap.size + 1, 6, none⟩ = some (.int .u64 (ww1 v)) ∧ w'.cell? ⟨w.heap.size + 1, 7, none⟩ = some (.int .u64 (ww0 v)) ∧ w'.cell? ⟨w.heap.size + 1, 8, none⟩ = some (.int .u64 (ww3 t)) ∧ w'.cell? ⟨w.heap.size + 1, 9, none⟩ = some (.int .u64 (ww2 t)) ∧ w'.cell? ⟨w.heap.size + 1, 10, none⟩ = some (.int .u64 (ww1 t)) ∧ w'.cell? ⟨w.heap.size + 1, 11, none⟩ = some (.int .u64 (ww0 t))) W := ⟨(T0.b 0 rfl).c 0 rfl, (T0.b 0 rfl).c 1 rfl, (T0.b 0 rfl).c 2 rfl, (T0.b 0 rfl).c 3 rfl, (T0.b 0 rfl).c 4 rfl, (T0.b 0 rfl).c 5 rfl, (T0.b 0 rfl).c 6 rfl, (T0.b 0 rfl).c 7 rfl, (T0.b 0 rfl).c 8 rfl, (T0.b 0 rfl).c 9 rfl, (T0.b 0 rfl).c 10 rfl, (T0.b 0 rfl).c 11 rfl, (T0.b 1 rfl).c 0 rfl, (T0.b 1 rfl).c 1 rfl, (T0.b 1 rfl).c 2 rfl, (T0.b 1 rfl).c 3 rfl, (T0.b 1 rfl).c 4 rfl, (T0.b 1 rfl).c 5 rfl, (T0.b 1 rfl).c 6 rfl, (T0.b 1 rfl).c 7 rfl, (T0.b 1 rfl).c 8 rfl, (T0.b 1 rfl).c 9 rfl, (T0.b 1 rfl).c 10 rfl, (T0.b 1 rfl).c 11 rfl⟩
set_option maxRecDepth 100000 in
set_option maxHeartbeats 2000000 in
theorem specPointCmp_det (x y z u v t : Int) (hx : told x = true) (hy : told y = true) (hz : told z = true) (hu : told u = true) (hv : told v = true) (ht : told t = true) (w : World) : Calls Try.prog 24 #[PV x y z, PV u v t] w (VP (.int .i64 (ptCmp x y z u v t)) w) := by
  have T0 : ArgsB w ((w.alloc (.cells #[.int .u64 (ww3 x), .int .u64 (ww2 x), .int .u64 (ww1 x), .int .u64 (ww0 x), .int .u64 (ww3 y), .int .u64 (ww2 y), .int .u64 (ww1 y), .int .u64 (ww0 y), .int .u64 (ww3 z), .int .u64 (ww2 z), .int .u64 (ww1 z), .int .u64 (ww0 z)] 30)).alloc (.cells #[.int .u64 (ww3 u), .int .u64 (ww2 u), .int .u64 (ww1 u), .int .u64 (ww0 u), .int .u64 (ww3 v), .int .u64 (ww2 v), .int .u64 (ww1 v), .int .u64 (ww0 v), .int .u64 (ww3 t), .int .u64 (ww2 t), .int .u64 (ww1 t), .int .u64 (ww0 t)] 30)) [[.int .u64 (ww3 x), .int .u64 (ww2 x), .int .u64 (ww1 x), .int .u64 (ww0 x), .int .u64 (ww3 y), .int .u64 (ww2 y), .int .u64 (ww1 y), .int .u64 (ww0 y), .int .u64 (ww3 z), .int .u64 (ww2 z), .int .u64 (ww1 z), .int .u64 (ww0 z)], [.int .u64 (ww3 u), .int .u64 (ww2 u), .int .u64 (ww1 u), .int .u64 (ww0 u), .int .u64 (ww3 v), .int .u64 (ww2 v), .int .u64 (ww1 v), .int .u64 (ww0 v), .int .u64 (ww3 t), .int .u64 (ww2 t), .int .u64 (ww1 t), .int .u64 (ww0 t)]] := ar2 _ _ _ _ w
  have R1 := specPointOk_det x y z hx hy hz
  have R2 := specPointOk_det u v t hu hv ht
  have F1 := l3Of_det x y z hx hy hz
  have F2 := l3Of_det u v t hu hv ht
  clear hx hy hz hu hv ht
  go_enter Try.func24, Try.ntmps24
  go_wp2_with fail
  generalize ((w.alloc (.cells #[.int .u64 (ww3 x), .int .u64 (ww2 x), .int .u64 (ww1 x), .int .u64 (ww0 x), .int .u64 (ww3 y), .int .u64 (ww2 y), .int .u64 (ww1 y), .int .u64 (ww0 y), .int .u64 (ww3 z), .int .u64 (ww2 z), .int .u64 (ww1 z), .int .u64 (ww0 z)] 30)).alloc (.cells #[.int .u64 (ww3 u), .int .u64 (ww2 u), .int .u64 (ww1 u), .int .u64 (ww0 u), .int .u64 (ww3 v), .int .u64 (ww2 v), .int .u64 (ww1 v), .int .u64 (ww0 v), .int .u64 (ww3 t), .int .u64 (ww2 t), .int .u64 (ww1 t), .int .u64 (ww0 t)] 30)) = W at *
  refine (R1 _).mono ?_
  rintro e w1 ⟨rfl, hB⟩
  replace T0 := T0.step hB
  clear hB
  by_cases h1 : ptB x y z = true
  · rw [h1]
    have X0 : Blk _ w.heap.size _ := T0.b 0 rfl; have Y0 : Blk _ (w.heap.size + 1) _ := T0.b 1 rfl; have p0 := X0.c 0 rfl; have q0 := Y0.c 0 rfl; have p1 := X0.c 1 rfl; have q1 := Y0.c 1 rfl; have p2 := X0.c 2 rfl; have q2 := Y0.c 2 rfl; have p3 := X0.c 3 rfl; have q3 := Y0.c 3 rfl; have p4 := X0.c 4 rfl; have q4 := Y0.c 4 rfl; have p5 := X0.c 5 rfl; have q5 := Y0.c 5 rfl; have p6 := X0.c 6 rfl; have q6 := Y0.c 6 rfl; have p7 := X0.c 7 rfl; have q7 := Y0.c 7 rfl; have p8 := X0.c 8 rfl; have q8 := Y0.c 8 rfl; have p9 := X0.c 9 rfl; have q9 := Y0.c 9 rfl; have p10 := X0.c 10 rfl; have q10 := Y0.c 10 rfl; have p11 := X0.c 11 rfl; have q11 := Y0.c 11 rfl; clear X0 Y0
    go_wp2_with fail
    refine (R2 _).mono ?_
    rintro e w2 ⟨rfl, hB⟩
    replace T0 := T0.step hB
    clear hB p0 q0 p1 q1 p2 q2 p3 q3 p4 q4 p5 q5 p6 q6 p7 q7 p8 q8 p9 q9 p10 q10 p11 q11
    by_cases h2 : ptB u v t = true
    · rw [h2]
      have HO : Hid (ptCmp x y z u v t = ordI x y z u v t) := by show _ = _; unfold ptCmp; rw [h1, h2]; rfl
      clear h1 h2 R1 R2
      have tok1 : True := trivial
      go_upto_region 3 with fail
      go_region_held3 (fun w' => w'.cell? ⟨w.heap.size, 0, none⟩ = some (.int .u64 (ww3 x)) ∧ w'.cell? ⟨w.heap.size, 1, none⟩ = some (.int .u64 (ww2 x)) ∧ w'.cell? ⟨w.heap.size, 2, none⟩ = some (.int .u64 (ww1 x)) ∧ w'.cell? ⟨w.heap.size, 3, none⟩ = some (.int .u64 (ww0 x)) ∧ w'.cell? ⟨w.heap.size, 4, none⟩ = some (.int .u64 (ww3 y)) ∧ w'.cell? ⟨w.heap.size, 5, none⟩ = some (.int .u64 (ww2 y)) ∧ w'.cell? ⟨w.heap.size, 6, none⟩ = some (.int .u64 (ww1 y)) ∧ w'.cell? ⟨w.heap.size, 7, none⟩ = some (.int .u64 (ww0 y)) ∧ w'.cell? ⟨w.heap.size, 8, none⟩ = some (.int .u64 (ww3 z)) ∧ w'.cell? ⟨w.heap.size, 9, none⟩ = some (.int .u64 (ww2 z)) ∧ w'.cell? ⟨w.heap.size, 10, none⟩ = some (.int .u64 (ww1 z)) ∧ w'.cell? ⟨w.heap.size, 11, none⟩ = some (.int .u64 (ww0 z)) ∧ w'.cell? ⟨w.heap.size + 1, 0, none⟩ = some (.int .u64 (ww3 u)) ∧ w'.cell? ⟨w.heap.size + 1, 1, none⟩ = some (.int .u64 (ww2 u)) ∧ w'.cell? ⟨w.heap.size + 1, 2, none⟩ = some (.int .u64 (ww1 u)) ∧ w'.cell? ⟨w.heap.size + 1, 3, none⟩ = some (.int .u64 (ww0 u)) ∧ w'.cell? ⟨w.heap.size + 1, 4, none⟩ = some (.int .u64 (ww3 v)) ∧ w'.cell? ⟨w.heap.size + 1, 5, none⟩ = some (.int .u64 (ww2 v)) ∧ w'.cell? ⟨w.heap.size + 1, 6, none⟩ = some (.int .u64 (ww1 v)) ∧ w'.cell? ⟨w.heap.size + 1, 7, none⟩ = some (.int .u64 (ww0 v)) ∧ w'.cell? ⟨w.heap.size + 1, 8, none⟩ = some (.int .u64 (ww3 t)) ∧ w'.cell? ⟨w.heap.size + 1, 9, none⟩ = some (.int .u64 (ww2 t)) ∧ w'.cell? ⟨w.heap.size + 1, 10, none⟩ = some (.int .u64 (ww1 t)) ∧ w'.cell? ⟨w.heap.size + 1, 11, none⟩ = some (.int .u64 (ww0 t))) (first | (with_reducible exact pp_cells T0) | (with_reducible exact pp_cells T0.drew))
        (first
          | (go_at_call 57; have _t := tok1; refine (F1 _).mono ?_; rintro e w3 ⟨ps1, po1, pn1, pc1, pd1, ps2, po2, pn2, pc2, pd2, ps3, po3, pn3, pc3, pd3, rfl, Np1, Np2, Np3, hB⟩; (first | (have T1 := T0.step hB) | (have T1 := T0.drew.step hB)); clear T0; have T0 := T1; clear T1; clear hB tok1 _t)
          | (go_at_call 57; refine (F2 _).mono ?_; rintro e w4 ⟨qs1, qo1, qn1, qc1, qd1, qs2, qo2, qn2, qc2, qd2, qs3, qo3, qn3, qc3, qd3, rfl, Nq1, Nq2, Nq3, hB⟩; (first | (have T1 := T0.step hB) | (have T1 := T0.drew.step hB)); clear T0; have T0 := T1; clear T1; replace Np1 := Np1.below hB; replace Np2 := Np2.below hB; replace Np3 := Np3.below hB; clear hB)
          | (go_at_call 73; refine (l3Cmp_any ps1 ps2 ps3 po1 po2 po3 pn1 pc1 pn2 pc2 pn3 pc3 qs1 qs2 qs3 qo1 qo2 qo3 qn1 qc1 qn2 qc2 qn3 qc3 pd1 pd2 pd3 qd1 qd2 qd3 x y z u v t 8 (by omega) _ Np1 Np2 Np3 Nq1 Nq2 Nq3).mono ?_; rintro e w5 ⟨rfl, hB⟩; (first | (have T1 := T0.step hB) | (have T1 := T0.drew.step hB)); clear T0; have T0 := T1; clear T1; clear hB))
      all_goals have HB := T0.below
      all_goals clear T0
      all_goals go_wp2
      all_goals go_ret
      all_goals exact ⟨by rw [HO.out]; rfl, by first | exact HB | exact HB.drew⟩
    · replace h2 := Bool.eq_false_iff.2 h2
      rw [h2]
      have HO : Hid (ptCmp x y z u v t = 0) := by show _ = _; unfold ptCmp; rw [h2]; simp
      have HB := T0.below
      clear T0 h1 h2 R1 R2
      go_wp2
      go_ret
      exact ⟨by rw [HO.out]; rfl, HB⟩
  · replace h1 := Bool.eq_false_iff.2 h1
    rw [h1]
    have HO : Hid (ptCmp x y z u v t = 0) := by show _ = _; unfold ptCmp; rw [h1]; simp
    have HB := T0.below
    clear T0 h1 R1 R2
    go_wp2
    go_ret
    exact ⟨by rw [HO.out]; rfl, HB⟩
end Go.Proofs.Ytppbfdpdcgjfcaa

/- How a value of four words reads as data: opened and shut. -/
namespace Go.Proofs.Ytppbfdpdcgjfcaa
open Go.ChangeShapes Go.WideShapes Go.ChangeAt Go.RowKit Go.Joins
theorem Try.own : ownKnob Try.prog.godebug = none := by kernel_rfl
theorem Try.cells28 : Try.prog.cellsOf 24 = 4 := by kernel_rfl
theorem word_of_wf {x : Int} (h : (Lit.int .u64 x).wf = true) : Word x := by
  simp [Lit.wf, IntKind.min, IntKind.max, IntKind.signed, IntKind.bits] at h
  exact ⟨by omega, by omega⟩
theorem int_of_wf {x : Int} (h : (Lit.int .i64 x).wf = true) : -9223372036854775808 ≤ x ∧ x ≤ 9223372036854775807 := by
  simp [Lit.wf, IntKind.min, IntKind.max, IntKind.signed, IntKind.bits] at h
  exact ⟨by omega, by omega⟩
set_option maxRecDepth 100000 in
/-- A value of four words, opened. -/
theorem open_wide {H : Type} {enc : TypeId × Value → H} {w : World} {b0 : Nat} {v : Value} {d : DataW H} {p : List MemPlace} (hv : Value.okWide Try.prog w .any b0 24 v) (h : DataW.Trod enc Try.prog w 0 (fun _ => true) true 24 v d p) :
    ∃ a3 a2 a1 a0 : Int, v = .agg #[.int .u64 a3, .int .u64 a2, .int .u64 a1, .int .u64 a0] ∧ d = .agg [.lit (.int .u64 a3), .lit (.int .u64 a2), .lit (.int .u64 a1), .lit (.int .u64 a0)] ∧ p = [] ∧ (Lit.int .u64 a3).wf = true ∧ (Lit.int .u64 a2).wf = true ∧ (Lit.int .u64 a1).wf = true ∧ (Lit.int .u64 a0).wf = true := by
  obtain ⟨c0, c1, c2, c3, y0, y1, y2, y3, m, rfl, rfl, rfl, hy0, hy1, hy2, hy3⟩ := open_agg4 Try.underlying24 (by kernel_rfl) Try.cells28 hv h
  obtain ⟨a, e0, rfl, wa⟩ := DataW.trod_int Try.underlying22 hy0
  obtain ⟨b, e1, rfl, wb⟩ := DataW.trod_int Try.underlying22 hy1
  obtain ⟨c, e2, rfl, wc⟩ := DataW.trod_int Try.underlying22 hy2
  obtain ⟨e, e3, rfl, we⟩ := DataW.trod_int Try.underlying22 hy3
  simp at e0 e1 e2 e3
  subst e0 e1 e2 e3
  exact ⟨a, b, c, e, rfl, rfl, rfl, wa, wb, wc, we⟩
theorem shut_wide {H : Type} {enc : TypeId × Value → H} {w : World} {base : Nat} {spare : TypeId → Bool} {held : Bool} {a3 a2 a1 a0 : Int} (w3 : (Lit.int .u64 a3).wf = true) (w2 : (Lit.int .u64 a2).wf = true) (w1 : (Lit.int .u64 a1).wf = true) (w0 : (Lit.int .u64 a0).wf = true) :
    DataW.Trod enc Try.prog w base spare held 24 (.agg #[.int .u64 a3, .int .u64 a2, .int .u64 a1, .int .u64 a0]) (.agg [.lit (.int .u64 a3), .lit (.int .u64 a2), .lit (.int .u64 a1), .lit (.int .u64 a0)]) [] :=
  shut_agg4 (y0 := (.lit (.int .u64 a3), [])) (y1 := (.lit (.int .u64 a2), [])) (y2 := (.lit (.int .u64 a1), [])) (y3 := (.lit (.int .u64 a0), [])) Try.underlying24 (by kernel_rfl) Try.cells28
    ⟨1, by simp [DataW.trod, Try.underlying22, w3]⟩ ⟨1, by simp [DataW.trod, Try.underlying22, w2]⟩ ⟨1, by simp [DataW.trod, Try.underlying22, w1]⟩ ⟨1, by simp [DataW.trod, Try.underlying22, w0]⟩
end Go.Proofs.Ytppbfdpdcgjfcaa

/- Points: the law's own copy of one, and how one reads as data. -/
namespace Go.Proofs.Ytppbfdpdcgjfcaa
open Go.ChangeShapes Go.WideShapes Go.ChangeAt Go.RowKit Go.Joins
theorem toWide_det (x : Int) (w : World) : Calls Try.prog 21 #[W4 x] w (VP (W4 x) w) := toWide_any _ _ _ _ w
set_option maxRecDepth 100000 in
set_option maxHeartbeats 2000000 in
theorem toPoint_det (x y z : Int) (w : World) : Calls Try.prog 18 #[PV x y z] w (VP (PV x y z) w) := by
  have T5 : ArgsB w (((w.alloc (.cells #[.int .u64 (ww3 x), .int .u64 (ww2 x), .int .u64 (ww1 x), .int .u64 (ww0 x), .int .u64 (ww3 y), .int .u64 (ww2 y), .int .u64 (ww1 y), .int .u64 (ww0 y), .int .u64 (ww3 z), .int .u64 (ww2 z), .int .u64 (ww1 z), .int .u64 (ww0 z)] 26)).alloc (.cells #[.int .u64 0, .int .u64 0, .int .u64 0, .int .u64 0, .int .u64 0, .int .u64 0, .int .u64 0, .int .u64 0, .int .u64 0, .int .u64 0, .int .u64 0, .int .u64 0] 30)).alloc (.cells #[.int .u64 0, .int .u64 0, .int .u64 0, .int .u64 0, .int .u64 0, .int .u64 0, .int .u64 0, .int .u64 0, .int .u64 0, .int .u64 0, .int .u64 0, .int .u64 0] 30)) [[.int .u64 (ww3 x), .int .u64 (ww2 x), .int .u64 (ww1 x), .int .u64 (ww0 x), .int .u64 (ww3 y), .int .u64 (ww2 y), .int .u64 (ww1 y), .int .u64 (ww0 y), .int .u64 (ww3 z), .int .u64 (ww2 z), .int .u64 (ww1 z), .int .u64 (ww0 z)], [.int .u64 0, .int .u64 0, .int .u64 0, .int .u64 0, .int .u64 0, .int .u64 0, .int .u64 0, .int .u64 0, .int .u64 0, .int .u64 0, .int .u64 0, .int .u64 0], [.int .u64 0, .int .u64 0, .int .u64 0, .int .u64 0, .int .u64 0, .int .u64 0, .int .u64 0, .int .u64 0, .int .u64 0, .int .u64 0, .int .u64 0, .int .u64 0]] := ar3 _ _ _ _ _ _ w
  have X0 : Blk _ w.heap.size _ := T5.b 0 rfl; have R0 : Blk _ (w.heap.size + 1) _ := T5.b 1 rfl; have O0 : Blk _ (w.heap.size + 1 + 1) _ := T5.b 2 rfl
  have HB := T5.below
  clear T5
  go_enter Try.func18, Try.ntmps18
  go_wp2_with fail
  refine (toWide_det x _).mono ?_
  rintro e w1 ⟨rfl, hB⟩
  replace X0 := X0.step hB; replace R0 := R0.step hB; replace O0 := O0.step hB; replace HB := HB.trans (hB.mono HB.size)
  clear hB
  have xc4 := X0.c 4 rfl; have xc5 := X0.c 5 rfl; have xc6 := X0.c 6 rfl; have xc7 := X0.c 7 rfl; have xl := X0.lt; have oc0 := O0.c 0 rfl; have of0 := O0.f 0 rfl; have oc1 := O0.c 1 rfl; have of1 := O0.f 1 rfl; have oc2 := O0.c 2 rfl; have of2 := O0.f 2 rfl; have oc3 := O0.c 3 rfl; have of3 := O0.f 3 rfl; have ol := O0.lt
  go_wp2_with fail
  clear xc4 xc5 xc6 xc7 xl oc0 of0 oc1 of1 oc2 of2 oc3 of3 ol
  replace X0 : Blk ((((w1.setCell ⟨w.heap.size + 1 + 1, 0, none⟩ (.int .u64 (ww3 x))).setCell ⟨w.heap.size + 1 + 1, 1, none⟩ (.int .u64 (ww2 x))).setCell ⟨w.heap.size + 1 + 1, 2, none⟩ (.int .u64 (ww1 x))).setCell ⟨w.heap.size + 1 + 1, 3, none⟩ (.int .u64 (ww0 x))) w.heap.size _ := (((X0.setO (by show w.heap.size ≠ w.heap.size + 1 + 1; omega) _).setO (by show w.heap.size ≠ w.heap.size + 1 + 1; omega) _).setO (by show w.heap.size ≠ w.heap.size + 1 + 1; omega) _).setO (by show w.heap.size ≠ w.heap.size + 1 + 1; omega) _
  replace R0 : Blk ((((w1.setCell ⟨w.heap.size + 1 + 1, 0, none⟩ (.int .u64 (ww3 x))).setCell ⟨w.heap.size + 1 + 1, 1, none⟩ (.int .u64 (ww2 x))).setCell ⟨w.heap.size + 1 + 1, 2, none⟩ (.int .u64 (ww1 x))).setCell ⟨w.heap.size + 1 + 1, 3, none⟩ (.int .u64 (ww0 x))) (w.heap.size + 1) _ := (((R0.setO (by show w.heap.size + 1 ≠ w.heap.size + 1 + 1; omega) _).setO (by show w.heap.size + 1 ≠ w.heap.size + 1 + 1; omega) _).setO (by show w.heap.size + 1 ≠ w.heap.size + 1 + 1; omega) _).setO (by show w.heap.size + 1 ≠ w.heap.size + 1 + 1; omega) _
  replace O0 := (((O0.setI 0 (by simp) (.int .u64 (ww3 x))).setI 1 (by simp) (.int .u64 (ww2 x))).setI 2 (by simp) (.int .u64 (ww1 x))).setI 3 (by simp) (.int .u64 (ww0 x))
  replace HB : Below w.heap.size w ((((w1.setCell ⟨w.heap.size + 1 + 1, 0, none⟩ (.int .u64 (ww3 x))).setCell ⟨w.heap.size + 1 + 1, 1, none⟩ (.int .u64 (ww2 x))).setCell ⟨w.heap.size + 1 + 1, 2, none⟩ (.int .u64 (ww1 x))).setCell ⟨w.heap.size + 1 + 1, 3, none⟩ (.int .u64 (ww0 x))) := (((HB.setCell (by show w.heap.size ≤ w.heap.size + 1 + 1; omega) _).setCell (by show w.heap.size ≤ w.heap.size + 1 + 1; omega) _).setCell (by show w.heap.size ≤ w.heap.size + 1 + 1; omega) _).setCell (by show w.heap.size ≤ w.heap.size + 1 + 1; omega) _
  generalize ((((w1.setCell ⟨w.heap.size + 1 + 1, 0, none⟩ (.int .u64 (ww3 x))).setCell ⟨w.heap.size + 1 + 1, 1, none⟩ (.int .u64 (ww2 x))).setCell ⟨w.heap.size + 1 + 1, 2, none⟩ (.int .u64 (ww1 x))).setCell ⟨w.heap.size + 1 + 1, 3, none⟩ (.int .u64 (ww0 x))) = W1 at *
  simp only [List.set_cons_zero, List.set_cons_succ] at O0
  refine (toWide_det y _).mono ?_
  rintro e w2 ⟨rfl, hB⟩
  replace X0 := X0.step hB; replace R0 := R0.step hB; replace O0 := O0.step hB; replace HB := HB.trans (hB.mono HB.size)
  clear hB
  have xc8 := X0.c 8 rfl; have xc9 := X0.c 9 rfl; have xc10 := X0.c 10 rfl; have xc11 := X0.c 11 rfl; have xl := X0.lt; have oc4 := O0.c 4 rfl; have of4 := O0.f 4 rfl; have oc5 := O0.c 5 rfl; have of5 := O0.f 5 rfl; have oc6 := O0.c 6 rfl; have of6 := O0.f 6 rfl; have oc7 := O0.c 7 rfl; have of7 := O0.f 7 rfl; have ol := O0.lt
  go_wp2_with fail
  clear xc8 xc9 xc10 xc11 xl oc4 of4 oc5 of5 oc6 of6 oc7 of7 ol
  replace X0 : Blk ((((w2.setCell ⟨w.heap.size + 1 + 1, 4, none⟩ (.int .u64 (ww3 y))).setCell ⟨w.heap.size + 1 + 1, 5, none⟩ (.int .u64 (ww2 y))).setCell ⟨w.heap.size + 1 + 1, 6, none⟩ (.int .u64 (ww1 y))).setCell ⟨w.heap.size + 1 + 1, 7, none⟩ (.int .u64 (ww0 y))) w.heap.size _ := (((X0.setO (by show w.heap.size ≠ w.heap.size + 1 + 1; omega) _).setO (by show w.heap.size ≠ w.heap.size + 1 + 1; omega) _).setO (by show w.heap.size ≠ w.heap.size + 1 + 1; omega) _).setO (by show w.heap.size ≠ w.heap.size + 1 + 1; omega) _
  replace R0 : Blk ((((w2.setCell ⟨w.heap.size + 1 + 1, 4, none⟩ (.int .u64 (ww3 y))).setCell ⟨w.heap.size + 1 + 1, 5, none⟩ (.int .u64 (ww2 y))).setCell ⟨w.heap.size + 1 + 1, 6, none⟩ (.int .u64 (ww1 y))).setCell ⟨w.heap.size + 1 + 1, 7, none⟩ (.int .u64 (ww0 y))) (w.heap.size + 1) _ := (((R0.setO (by show w.heap.size + 1 ≠ w.heap.size + 1 + 1; omega) _).setO (by show w.heap.size + 1 ≠ w.heap.size + 1 + 1; omega) _).setO (by show w.heap.size + 1 ≠ w.heap.size + 1 + 1; omega) _).setO (by show w.heap.size + 1 ≠ w.heap.size + 1 + 1; omega) _
  replace O0 := (((O0.setI 4 (by simp) (.int .u64 (ww3 y))).setI 5 (by simp) (.int .u64 (ww2 y))).setI 6 (by simp) (.int .u64 (ww1 y))).setI 7 (by simp) (.int .u64 (ww0 y))
  replace HB : Below w.heap.size w ((((w2.setCell ⟨w.heap.size + 1 + 1, 4, none⟩ (.int .u64 (ww3 y))).setCell ⟨w.heap.size + 1 + 1, 5, none⟩ (.int .u64 (ww2 y))).setCell ⟨w.heap.size + 1 + 1, 6, none⟩ (.int .u64 (ww1 y))).setCell ⟨w.heap.size + 1 + 1, 7, none⟩ (.int .u64 (ww0 y))) := (((HB.setCell (by show w.heap.size ≤ w.heap.size + 1 + 1; omega) _).setCell (by show w.heap.size ≤ w.heap.size + 1 + 1; omega) _).setCell (by show w.heap.size ≤ w.heap.size + 1 + 1; omega) _).setCell (by show w.heap.size ≤ w.heap.size + 1 + 1; omega) _
  generalize ((((w2.setCell ⟨w.heap.size + 1 + 1, 4, none⟩ (.int .u64 (ww3 y))).setCell ⟨w.heap.size + 1 + 1, 5, none⟩ (.int .u64 (ww2 y))).setCell ⟨w.heap.size + 1 + 1, 6, none⟩ (.int .u64 (ww1 y))).setCell ⟨w.heap.size + 1 + 1, 7, none⟩ (.int .u64 (ww0 y))) = W2 at *
  simp only [List.set_cons_zero, List.set_cons_succ] at O0
  refine (toWide_det z _).mono ?_
  rintro e w3 ⟨rfl, hB⟩
  replace X0 := X0.step hB; replace R0 := R0.step hB; replace O0 := O0.step hB; replace HB := HB.trans (hB.mono HB.size)
  clear hB
  have oc0 := O0.c 0 rfl; have of0 := O0.f 0 rfl; have oc1 := O0.c 1 rfl; have of1 := O0.f 1 rfl; have oc2 := O0.c 2 rfl; have of2 := O0.f 2 rfl; have oc3 := O0.c 3 rfl; have of3 := O0.f 3 rfl; have oc4 := O0.c 4 rfl; have of4 := O0.f 4 rfl; have oc5 := O0.c 5 rfl; have of5 := O0.f 5 rfl; have oc6 := O0.c 6 rfl; have of6 := O0.f 6 rfl; have oc7 := O0.c 7 rfl; have of7 := O0.f 7 rfl; have oc8 := O0.c 8 rfl; have of8 := O0.f 8 rfl; have oc9 := O0.c 9 rfl; have of9 := O0.f 9 rfl; have oc10 := O0.c 10 rfl; have of10 := O0.f 10 rfl; have oc11 := O0.c 11 rfl; have of11 := O0.f 11 rfl; have ol := O0.lt; have rc0 := R0.c 0 rfl; have rf0 := R0.f 0 rfl; have rc1 := R0.c 1 rfl; have rf1 := R0.f 1 rfl; have rc2 := R0.c 2 rfl; have rf2 := R0.f 2 rfl; have rc3 := R0.c 3 rfl; have rf3 := R0.f 3 rfl; have rc4 := R0.c 4 rfl; have rf4 := R0.f 4 rfl; have rc5 := R0.c 5 rfl; have rf5 := R0.f 5 rfl; have rc6 := R0.c 6 rfl; have rf6 := R0.f 6 rfl; have rc7 := R0.c 7 rfl; have rf7 := R0.f 7 rfl; have rc8 := R0.c 8 rfl; have rf8 := R0.f 8 rfl; have rc9 := R0.c 9 rfl; have rf9 := R0.f 9 rfl; have rc10 := R0.c 10 rfl; have rf10 := R0.f 10 rfl; have rc11 := R0.c 11 rfl; have rf11 := R0.f 11 rfl; have rl := R0.lt
  have hne : w.heap.size + 1 + 1 ≠ w.heap.size + 1 := by omega
  clear R0 O0 X0
  go_wp2
  refine bodyPost_ret (v := PV x y z) (by simp [results, Try.results18, go_sem, rc0, rc1, rc2, rc3, rc4, rc5, rc6, rc7, rc8, rc9, rc10, rc11]) rfl ?_
  refine ⟨rfl, ?_⟩
  repeat' (refine Below.setCell ?_ (by simp; try omega) _)
  exact HB
abbrev Wu (x : Int) : Prop := (Lit.int .u64 x).wf = true
abbrev WdD {H : Type} (a3 a2 a1 a0 : Int) : DataW H := .agg [.lit (.int .u64 a3), .lit (.int .u64 a2), .lit (.int .u64 a1), .lit (.int .u64 a0)]
abbrev PtD {H : Type} (x y z : Int) : DataW H := .agg [WdD (ww3 x) (ww2 x) (ww1 x) (ww0 x), WdD (ww3 y) (ww2 y) (ww1 y) (ww0 y), WdD (ww3 z) (ww2 z) (ww1 z) (ww0 z)]
theorem Try.cellsPoint : Try.prog.cellsOf 26 = 12 := by kernel_rfl
theorem array12 (T : Array Value) (h : T.size = 12) : ∃ v0 v1 v2 v3 v4 v5 v6 v7 v8 v9 v10 v11 : Value, T = #[v0, v1, v2, v3, v4, v5, v6, v7, v8, v9, v10, v11] := by
  match T, h with
  | ⟨[v0, v1, v2, v3, v4, v5, v6, v7, v8, v9, v10, v11]⟩, _ => exact ⟨v0, v1, v2, v3, v4, v5, v6, v7, v8, v9, v10, v11, rfl⟩
theorem trod_wide {H : Type} {enc : TypeId × Value → H} {w : World} {base : Nat} {spare : TypeId → Bool} {held : Bool} {n : Nat} {c0 c1 c2 c3 : Value} {y : DataW H × List MemPlace} (h : DataW.trod enc Try.prog w base spare held n 24 [c0, c1, c2, c3] = some y) :
    ∃ z : Int, told z = true ∧ c0 = .int .u64 (ww3 z) ∧ c1 = .int .u64 (ww2 z) ∧ c2 = .int .u64 (ww1 z) ∧ c3 = .int .u64 (ww0 z) ∧ y = (WdD (ww3 z) (ww2 z) (ww1 z) (ww0 z), []) := by
  obtain ⟨y0, y1, y2, y3, m, hx, _, h0, h1, h2, h3⟩ := trod_struct4 Try.underlying24 h
  obtain ⟨a, e0, rfl, wa⟩ := DataW.trod_int Try.underlying22 h0
  obtain ⟨b, e1, rfl, wb⟩ := DataW.trod_int Try.underlying22 h1
  obtain ⟨c, e2, rfl, wc⟩ := DataW.trod_int Try.underlying22 h2
  obtain ⟨d, e3, rfl, wd⟩ := DataW.trod_int Try.underlying22 h3
  have k : Try.prog.cellsOf 22 = 1 := by kernel_rfl
  simp [k] at e0 e1 e2 e3
  have ha := word_of_wf wa; have hb := word_of_wf wb; have hc := word_of_wf wc; have hd := word_of_wf wd
  obtain ⟨f3, f2, f1, f0⟩ := wd_of ha hb hc hd rfl
  have ht : told (sw a b c d) = true := by
    unfold told
    apply decide_eq_true
    unfold Word sw uw at *
    split <;> omega
  exact ⟨sw a b c d, ht, e0.trans (congrArg _ f3), e1.trans (congrArg _ f2), e2.trans (congrArg _ f1), e3.trans (congrArg _ f0), by rw [← f3, ← f2, ← f1, ← f0]; exact hx⟩
theorem wu_of {z : Int} (h : Word z) : Wu z := by
  obtain ⟨h0, h1⟩ := h
  show (Lit.int .u64 z).wf = true
  simp [Lit.wf, IntKind.min, IntKind.max, IntKind.signed, IntKind.bits]
  omega
theorem shut_wide' {H : Type} {enc : TypeId × Value → H} {w : World} {base : Nat} {spare : TypeId → Bool} {held : Bool} (z : Int) : DataW.Trod enc Try.prog w base spare held 24 (W4 z) (WdD (ww3 z) (ww2 z) (ww1 z) (ww0 z)) [] := by
  obtain ⟨p3, p2, p1, p0⟩ := ww_words z
  exact shut_wide (wu_of p3) (wu_of p2) (wu_of p1) (wu_of p0)
set_option maxRecDepth 100000 in
theorem open_point {H : Type} {enc : TypeId × Value → H} {w : World} {b0' : Nat} {v : Value} {d : DataW H} {p : List MemPlace} (hv : Value.okWide Try.prog w .any b0' 26 v) (h : DataW.Trod enc Try.prog w 0 (fun _ => true) true 26 v d p) :
    ∃ x y z : Int, v = PV x y z ∧ d = PtD x y z ∧ p = [] ∧ told x = true ∧ told y = true ∧ told z = true := by
  obtain ⟨cs, rfl, hsz⟩ := okWide_struct Try.underlying26 hv
  obtain ⟨c0, c1, c2, c3, c4, c5, c6, c7, c8, c9, c10, c11, rfl⟩ := array12 cs (hsz.trans Try.cellsPoint)
  obtain ⟨fuel, hf⟩ := h
  obtain ⟨y0, y1, y2, n, hx, _, h0, h1, h2⟩ := Go.Deep.trod_struct3 Try.underlying26 hf
  simp [Value.cells, Try.cells28] at h0 h1 h2
  obtain ⟨x, tx, rfl, rfl, rfl, rfl, rfl⟩ := trod_wide h0
  obtain ⟨y, ty, rfl, rfl, rfl, rfl, rfl⟩ := trod_wide h1
  obtain ⟨z, tz, rfl, rfl, rfl, rfl, rfl⟩ := trod_wide h2
  simp only [Prod.mk.injEq] at hx
  exact ⟨x, y, z, rfl, hx.1, by simpa using hx.2, tx, ty, tz⟩
theorem shut_point {H : Type} {enc : TypeId × Value → H} {w : World} {base : Nat} {spare : TypeId → Bool} {held : Bool} (x y z : Int) :
    DataW.Trod enc Try.prog w base spare held 26 (PV x y z) (PtD x y z) [] := by
  obtain ⟨n0, t0⟩ := shut_wide' (enc := enc) (w := w) (base := base) (spare := spare) (held := held) x
  obtain ⟨n1, t1⟩ := shut_wide' (enc := enc) (w := w) (base := base) (spare := spare) (held := held) y
  obtain ⟨n2, t2⟩ := shut_wide' (enc := enc) (w := w) (base := base) (spare := spare) (held := held) z
  have ts := Go.Deep.trod_struct3_mk (enc := enc) (w := w) (base := base) (spare := spare) (held := held) (n := max n0 (max n1 n2)) (cs := [.int .u64 (ww3 x), .int .u64 (ww2 x), .int .u64 (ww1 x), .int .u64 (ww0 x), .int .u64 (ww3 y), .int .u64 (ww2 y), .int .u64 (ww1 y), .int .u64 (ww0 y), .int .u64 (ww3 z), .int .u64 (ww2 z), .int .u64 (ww1 z), .int .u64 (ww0 z)]) Try.underlying26 (by simp [Try.cellsPoint])
    (by simpa [Value.cells, Try.cells28] using DataW.trod_le (by omega) t0) (by simpa [Value.cells, Try.cells28] using DataW.trod_le (by omega) t1) (by simpa [Value.cells, Try.cells28] using DataW.trod_le (by omega) t2)
  exact ⟨_, by simpa [Value.cells] using ts⟩
end Go.Proofs.Ytppbfdpdcgjfcaa

/- The law PointCmp: both sides' answers. -/
namespace Go.Proofs.Ytppbfdpdcgjfcaa
open Go.RowKit
theorem la2_cells {x0 y0 z0 x1 y1 z1 : Int} {w W : World} (T0 : ArgsB w W [[.int .u64 (ww3 x0), .int .u64 (ww2 x0), .int .u64 (ww1 x0), .int .u64 (ww0 x0), .int .u64 (ww3 y0), .int .u64 (ww2 y0), .int .u64 (ww1 y0), .int .u64 (ww0 y0), .int .u64 (ww3 z0), .int .u64 (ww2 z0), .int .u64 (ww1 z0), .int .u64 (ww0 z0)], [.int .u64 (ww3 x1), .int .u64 (ww2 x1), .int .u64 (ww1 x1), .int .u64 (ww0 x1), .int .u64 (ww3 y1), .int .u64 (ww2 y1), .int .u64 (ww1 y1), .int .u64 (ww0 y1), .int .u64 (ww3 z1), .int .u64 (ww2 z1), .int .u64 (ww1 z1), .int .u64 (ww0 z1)]]) : (fun w' => w'.cell? ⟨w.heap.size, 0, none⟩ = some (.int .u64 (ww3 x0)) ∧ w'.cell? ⟨w.heap.size, 1, none⟩ = some (.int .u64 (ww2 x0)) ∧ w'.cell? ⟨w.heap.size, 2, none⟩ = some (.int .u64 (ww1 x0)) ∧ w'.cell? ⟨w.heap.size, 3, none⟩ = some (.int .u64 (ww0 x0)) ∧ w'.cell? ⟨w.heap.size, 4, none⟩ = some (.int .u64 (ww3 y0)) ∧ w'.cell? ⟨w.heap.size, 5, none⟩ = some (.int .u64 (ww2 y0)) ∧ w'.cell? ⟨w.heap.size, 6, none⟩ = some (.int .u64 (ww1 y0)) ∧ w'.cell? ⟨w.heap.size, 7, none⟩ = some (.int .u64 (ww0 y0)) ∧ w'.cell? ⟨w.heap.size, 8, none⟩ = some (.int .u64 (ww3 z0)) ∧ w'.cell? ⟨w.heap.size, 9, none⟩ = some (.int .u64 (ww2 z0)) ∧ w'.cell? ⟨w.heap.size, 10, none⟩ = some (.int .u64 (ww1 z0)) ∧ w'.cell? ⟨w.heap.size, 11, none⟩ = some (.int .u64 (ww0 z0)) ∧ w'.cell? ⟨w.heap.size + 1, 0, none⟩ = some (.int .u64 (ww3 x1)) ∧ w'.cell? ⟨w.heap.size + 1, 1, none⟩ = some (.int .u64 (ww2 x1)) ∧ w'.cell? ⟨w.heap.size + 1, 2, none⟩ = some (.int .u64 (ww1 x1)) ∧ w'.cell? ⟨w.heap.size + 1, 3, none⟩ = some (.int .u64 (ww0 x1)) ∧ w'.cell? ⟨w.heap.size + 1, 4, none⟩ = some (.int .u64 (ww3 y1)) ∧ w'.cell? ⟨w.heap.size + 1, 5, none⟩ = some (.int .u64 (ww2 y1)) ∧ w'.cell? ⟨w.heap.size + 1, 6, none⟩ = some (.int .u64 (ww1 y1)) ∧ w'.cell? ⟨w.heap.size + 1, 7, none⟩ = some (.int .u64 (ww0 y1)) ∧ w'.cell? ⟨w.heap.size + 1, 8, none⟩ = some (.int .u64 (ww3 z1)) ∧ w'.cell? ⟨w.heap.size + 1, 9, none⟩ = some (.int .u64 (ww2 z1)) ∧ w'.cell? ⟨w.heap.size + 1, 10, none⟩ = some (.int .u64 (ww1 z1)) ∧ w'.cell? ⟨w.heap.size + 1, 11, none⟩ = some (.int .u64 (ww0 z1))) W := ⟨(T0.b 0 rfl).c 0 rfl, (T0.b 0 rfl).c 1 rfl, (T0.b 0 rfl).c 2 rfl, (T0.b 0 rfl).c 3 rfl, (T0.b 0 rfl).c 4 rfl, (T0.b 0 rfl).c 5 rfl, (T0.b 0 rfl).c 6 rfl, (T0.b 0 rfl).c 7 rfl, (T0.b 0 rfl).c 8 rfl, (T0.b 0 rfl).c 9 rfl, (T0.b 0 rfl).c 10 rfl, (T0.b 0 rfl).c 11 rfl, (T0.b 1 rfl).c 0 rfl, (T0.b 1 rfl).c 1 rfl, (T0.b 1 rfl).c 2 rfl, (T0.b 1 rfl).c 3 rfl, (T0.b 1 rfl).c 4 rfl, (T0.b 1 rfl).c 5 rfl, (T0.b 1 rfl).c 6 rfl, (T0.b 1 rfl).c 7 rfl, (T0.b 1 rfl).c 8 rfl, (T0.b 1 rfl).c 9 rfl, (T0.b 1 rfl).c 10 rfl, (T0.b 1 rfl).c 11 rfl⟩
set_option maxRecDepth 100000 in
set_option maxHeartbeats 4000000 in
theorem lawPointCmp_any (x0 y0 z0 x1 y1 z1 : Int) (tx0 : told x0 = true) (ty0 : told y0 = true) (tz0 : told z0 = true) (tx1 : told x1 = true) (ty1 : told y1 = true) (tz1 : told z1 = true) (w : World) : Calls Try.prog 5 #[PV x0 y0 z0, PV x1 y1 z1] w (BoolP true w) := by
  have T0 : ArgsB w ((w.alloc (.cells #[.int .u64 (ww3 x0), .int .u64 (ww2 x0), .int .u64 (ww1 x0), .int .u64 (ww0 x0), .int .u64 (ww3 y0), .int .u64 (ww2 y0), .int .u64 (ww1 y0), .int .u64 (ww0 y0), .int .u64 (ww3 z0), .int .u64 (ww2 z0), .int .u64 (ww1 z0), .int .u64 (ww0 z0)] 26)).alloc (.cells #[.int .u64 (ww3 x1), .int .u64 (ww2 x1), .int .u64 (ww1 x1), .int .u64 (ww0 x1), .int .u64 (ww3 y1), .int .u64 (ww2 y1), .int .u64 (ww1 y1), .int .u64 (ww0 y1), .int .u64 (ww3 z1), .int .u64 (ww2 z1), .int .u64 (ww1 z1), .int .u64 (ww0 z1)] 26)) [[.int .u64 (ww3 x0), .int .u64 (ww2 x0), .int .u64 (ww1 x0), .int .u64 (ww0 x0), .int .u64 (ww3 y0), .int .u64 (ww2 y0), .int .u64 (ww1 y0), .int .u64 (ww0 y0), .int .u64 (ww3 z0), .int .u64 (ww2 z0), .int .u64 (ww1 z0), .int .u64 (ww0 z0)], [.int .u64 (ww3 x1), .int .u64 (ww2 x1), .int .u64 (ww1 x1), .int .u64 (ww0 x1), .int .u64 (ww3 y1), .int .u64 (ww2 y1), .int .u64 (ww1 y1), .int .u64 (ww0 y1), .int .u64 (ww3 z1), .int .u64 (ww2 z1), .int .u64 (ww1 z1), .int .u64 (ww0 z1)]] := ar2 _ _ _ _ w
  obtain ⟨b, hb⟩ : ∃ b : Int, ptCmp x0 y0 z0 x1 y1 z1 = b := ⟨_, rfl⟩
  have SP := specPointCmp_det x0 y0 z0 x1 y1 z1 tx0 ty0 tz0 tx1 ty1 tz1
  have IM := implPointCmp_det x0 y0 z0 x1 y1 z1 tx0 ty0 tz0 tx1 ty1 tz1
  rw [hb] at SP IM
  clear hb tx0 ty0 tz0 tx1 ty1 tz1
  have tk10 : True := trivial
  have tk20 : True := trivial
  go_enter Try.func5, Try.ntmps5
  go_upto_region 1 with fail
  generalize ((w.alloc (.cells #[.int .u64 (ww3 x0), .int .u64 (ww2 x0), .int .u64 (ww1 x0), .int .u64 (ww0 x0), .int .u64 (ww3 y0), .int .u64 (ww2 y0), .int .u64 (ww1 y0), .int .u64 (ww0 y0), .int .u64 (ww3 z0), .int .u64 (ww2 z0), .int .u64 (ww1 z0), .int .u64 (ww0 z0)] 26)).alloc (.cells #[.int .u64 (ww3 x1), .int .u64 (ww2 x1), .int .u64 (ww1 x1), .int .u64 (ww0 x1), .int .u64 (ww3 y1), .int .u64 (ww2 y1), .int .u64 (ww1 y1), .int .u64 (ww0 y1), .int .u64 (ww3 z1), .int .u64 (ww2 z1), .int .u64 (ww1 z1), .int .u64 (ww0 z1)] 26)) = W at *
  go_cut [5] (fun p wx => p = .int .i64 b ∧ ArgsB w wx [[.int .u64 (ww3 x0), .int .u64 (ww2 x0), .int .u64 (ww1 x0), .int .u64 (ww0 x0), .int .u64 (ww3 y0), .int .u64 (ww2 y0), .int .u64 (ww1 y0), .int .u64 (ww0 y0), .int .u64 (ww3 z0), .int .u64 (ww2 z0), .int .u64 (ww1 z0), .int .u64 (ww0 z0)], [.int .u64 (ww3 x1), .int .u64 (ww2 x1), .int .u64 (ww1 x1), .int .u64 (ww0 x1), .int .u64 (ww3 y1), .int .u64 (ww2 y1), .int .u64 (ww1 y1), .int .u64 (ww0 y1), .int .u64 (ww3 z1), .int .u64 (ww2 z1), .int .u64 (ww1 z1), .int .u64 (ww0 z1)]])
  case first =>
    go_region_held3 (fun w' => w'.cell? ⟨w.heap.size, 0, none⟩ = some (.int .u64 (ww3 x0)) ∧ w'.cell? ⟨w.heap.size, 1, none⟩ = some (.int .u64 (ww2 x0)) ∧ w'.cell? ⟨w.heap.size, 2, none⟩ = some (.int .u64 (ww1 x0)) ∧ w'.cell? ⟨w.heap.size, 3, none⟩ = some (.int .u64 (ww0 x0)) ∧ w'.cell? ⟨w.heap.size, 4, none⟩ = some (.int .u64 (ww3 y0)) ∧ w'.cell? ⟨w.heap.size, 5, none⟩ = some (.int .u64 (ww2 y0)) ∧ w'.cell? ⟨w.heap.size, 6, none⟩ = some (.int .u64 (ww1 y0)) ∧ w'.cell? ⟨w.heap.size, 7, none⟩ = some (.int .u64 (ww0 y0)) ∧ w'.cell? ⟨w.heap.size, 8, none⟩ = some (.int .u64 (ww3 z0)) ∧ w'.cell? ⟨w.heap.size, 9, none⟩ = some (.int .u64 (ww2 z0)) ∧ w'.cell? ⟨w.heap.size, 10, none⟩ = some (.int .u64 (ww1 z0)) ∧ w'.cell? ⟨w.heap.size, 11, none⟩ = some (.int .u64 (ww0 z0)) ∧ w'.cell? ⟨w.heap.size + 1, 0, none⟩ = some (.int .u64 (ww3 x1)) ∧ w'.cell? ⟨w.heap.size + 1, 1, none⟩ = some (.int .u64 (ww2 x1)) ∧ w'.cell? ⟨w.heap.size + 1, 2, none⟩ = some (.int .u64 (ww1 x1)) ∧ w'.cell? ⟨w.heap.size + 1, 3, none⟩ = some (.int .u64 (ww0 x1)) ∧ w'.cell? ⟨w.heap.size + 1, 4, none⟩ = some (.int .u64 (ww3 y1)) ∧ w'.cell? ⟨w.heap.size + 1, 5, none⟩ = some (.int .u64 (ww2 y1)) ∧ w'.cell? ⟨w.heap.size + 1, 6, none⟩ = some (.int .u64 (ww1 y1)) ∧ w'.cell? ⟨w.heap.size + 1, 7, none⟩ = some (.int .u64 (ww0 y1)) ∧ w'.cell? ⟨w.heap.size + 1, 8, none⟩ = some (.int .u64 (ww3 z1)) ∧ w'.cell? ⟨w.heap.size + 1, 9, none⟩ = some (.int .u64 (ww2 z1)) ∧ w'.cell? ⟨w.heap.size + 1, 10, none⟩ = some (.int .u64 (ww1 z1)) ∧ w'.cell? ⟨w.heap.size + 1, 11, none⟩ = some (.int .u64 (ww0 z1))) (first | (with_reducible exact la2_cells T0) | (with_reducible exact la2_cells T0.drew))
      (first
        | (go_at_call 18; have _t := tk10; refine (toPoint_det x0 y0 z0 _).mono ?_; rintro e v10 ⟨rfl, hB⟩; (first | (have T1 := T0.step hB) | (have T1 := T0.drew.step hB)); clear T0; have T0 := T1; clear T1; clear hB; clear tk10 _t)
        | (go_at_call 18; refine (toPoint_det x1 y1 z1 _).mono ?_; rintro e v11 ⟨rfl, hB⟩; (first | (have T1 := T0.step hB) | (have T1 := T0.drew.step hB)); clear T0; have T0 := T1; clear T1; clear hB)
        | (go_at_call 24; refine (SP _).mono ?_; rintro e v12 ⟨rfl, hB⟩; (first | (have T1 := T0.step hB) | (have T1 := T0.drew.step hB)); clear T0; have T0 := T1; clear T1; clear hB))
    all_goals go_wp2_with fail
    all_goals go_meet
    all_goals first | exact ⟨rfl, T0⟩ | exact ⟨rfl, T0.drew⟩
  case rest =>
    clear T0 SP tk10
    obtain ⟨hp, T0⟩ := hcut
    subst hp
    go_upto_region 2 with fail
    go_cut [6] (fun p wx => p = .int .i64 b ∧ ArgsB w wx [[.int .u64 (ww3 x0), .int .u64 (ww2 x0), .int .u64 (ww1 x0), .int .u64 (ww0 x0), .int .u64 (ww3 y0), .int .u64 (ww2 y0), .int .u64 (ww1 y0), .int .u64 (ww0 y0), .int .u64 (ww3 z0), .int .u64 (ww2 z0), .int .u64 (ww1 z0), .int .u64 (ww0 z0)], [.int .u64 (ww3 x1), .int .u64 (ww2 x1), .int .u64 (ww1 x1), .int .u64 (ww0 x1), .int .u64 (ww3 y1), .int .u64 (ww2 y1), .int .u64 (ww1 y1), .int .u64 (ww0 y1), .int .u64 (ww3 z1), .int .u64 (ww2 z1), .int .u64 (ww1 z1), .int .u64 (ww0 z1)]])
    case first =>
      go_region_held3 (fun w' => w'.cell? ⟨w.heap.size, 0, none⟩ = some (.int .u64 (ww3 x0)) ∧ w'.cell? ⟨w.heap.size, 1, none⟩ = some (.int .u64 (ww2 x0)) ∧ w'.cell? ⟨w.heap.size, 2, none⟩ = some (.int .u64 (ww1 x0)) ∧ w'.cell? ⟨w.heap.size, 3, none⟩ = some (.int .u64 (ww0 x0)) ∧ w'.cell? ⟨w.heap.size, 4, none⟩ = some (.int .u64 (ww3 y0)) ∧ w'.cell? ⟨w.heap.size, 5, none⟩ = some (.int .u64 (ww2 y0)) ∧ w'.cell? ⟨w.heap.size, 6, none⟩ = some (.int .u64 (ww1 y0)) ∧ w'.cell? ⟨w.heap.size, 7, none⟩ = some (.int .u64 (ww0 y0)) ∧ w'.cell? ⟨w.heap.size, 8, none⟩ = some (.int .u64 (ww3 z0)) ∧ w'.cell? ⟨w.heap.size, 9, none⟩ = some (.int .u64 (ww2 z0)) ∧ w'.cell? ⟨w.heap.size, 10, none⟩ = some (.int .u64 (ww1 z0)) ∧ w'.cell? ⟨w.heap.size, 11, none⟩ = some (.int .u64 (ww0 z0)) ∧ w'.cell? ⟨w.heap.size + 1, 0, none⟩ = some (.int .u64 (ww3 x1)) ∧ w'.cell? ⟨w.heap.size + 1, 1, none⟩ = some (.int .u64 (ww2 x1)) ∧ w'.cell? ⟨w.heap.size + 1, 2, none⟩ = some (.int .u64 (ww1 x1)) ∧ w'.cell? ⟨w.heap.size + 1, 3, none⟩ = some (.int .u64 (ww0 x1)) ∧ w'.cell? ⟨w.heap.size + 1, 4, none⟩ = some (.int .u64 (ww3 y1)) ∧ w'.cell? ⟨w.heap.size + 1, 5, none⟩ = some (.int .u64 (ww2 y1)) ∧ w'.cell? ⟨w.heap.size + 1, 6, none⟩ = some (.int .u64 (ww1 y1)) ∧ w'.cell? ⟨w.heap.size + 1, 7, none⟩ = some (.int .u64 (ww0 y1)) ∧ w'.cell? ⟨w.heap.size + 1, 8, none⟩ = some (.int .u64 (ww3 z1)) ∧ w'.cell? ⟨w.heap.size + 1, 9, none⟩ = some (.int .u64 (ww2 z1)) ∧ w'.cell? ⟨w.heap.size + 1, 10, none⟩ = some (.int .u64 (ww1 z1)) ∧ w'.cell? ⟨w.heap.size + 1, 11, none⟩ = some (.int .u64 (ww0 z1))) (first | (with_reducible exact la2_cells T0) | (with_reducible exact la2_cells T0.drew))
      (first
        | (go_at_call 18; have _t := tk20; refine (toPoint_det x0 y0 z0 _).mono ?_; rintro e v20 ⟨rfl, hB⟩; (first | (have T1 := T0.step hB) | (have T1 := T0.drew.step hB)); clear T0; have T0 := T1; clear T1; clear hB; clear tk20 _t)
        | (go_at_call 18; refine (toPoint_det x1 y1 z1 _).mono ?_; rintro e v21 ⟨rfl, hB⟩; (first | (have T1 := T0.step hB) | (have T1 := T0.drew.step hB)); clear T0; have T0 := T1; clear T1; clear hB)
        | (go_at_call 25; refine (IM _).mono ?_; rintro e v22 ⟨rfl, hB⟩; (first | (have T1 := T0.step hB) | (have T1 := T0.drew.step hB)); clear T0; have T0 := T1; clear T1; clear hB))
      all_goals go_wp2_with fail
      all_goals go_meet
      all_goals first | exact ⟨rfl, T0⟩ | exact ⟨rfl, T0.drew⟩
    case rest =>
      clear T0 IM tk20
      obtain ⟨hp, T0⟩ := hcut
      subst hp
      have HB := T0.below
      have hbb : (b == b) = true := by simp
      clear T0
      go_wp2
      go_ret
      exact ⟨rfl, HB⟩
end Go.Proofs.Ytppbfdpdcgjfcaa
