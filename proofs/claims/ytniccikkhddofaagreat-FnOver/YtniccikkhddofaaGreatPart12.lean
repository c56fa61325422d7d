/- Part 12 of the walks that the proof leans on. -/
import Derived.Test.YtniccikkhddofaaGreatPart11
import Derived.Test.YtniccikkhddofaaGreatPart9
import Derived.Deep.RegionHeld3
import Derived.Test.YtniccikkhddofaaGreatPart2
import Derived.Test.YtniccikkhddofaaGreatPart8
/- The middle of two points: the model's walk. -/
namespace Go.Proofs.YtniccikkhddofaaGreat
open Go.RowKit
theorem md_cells {ps1 ps2 ps3 : Bool} {po1 po2 po3 : Option Addr} {pn1 pc1 pn2 pc2 pn3 pc3 : Nat} {qs1 qs2 qs3 : Bool} {qo1 qo2 qo3 : Option Addr} {qn1 qc1 qn2 qc2 qn3 qc3 : Nat} {W : World} {gp gq : Nat} (Xp : Blk W gp [.bool ps1, .slice po1 pn1 pc1, .bool ps2, .slice po2 pn2 pc2, .bool ps3, .slice po3 pn3 pc3]) (Xq : Blk W gq [.bool qs1, .slice qo1 qn1 qc1, .bool qs2, .slice qo2 qn2 qc2, .bool qs3, .slice qo3 qn3 qc3]) : (fun w' => w'.cell? ⟨gp, 0, none⟩ = some (.bool ps1) ∧ w'.cell? ⟨gp, 1, none⟩ = some (.slice po1 pn1 pc1) ∧ w'.cell? ⟨gp, 2, none⟩ = some (.bool ps2) ∧ w'.cell? ⟨gp, 3, none⟩ = some (.slice po2 pn2 pc2) ∧ w'.cell? ⟨gp, 4, none⟩ = some (.bool ps3) ∧ w'.cell? ⟨gp, 5, none⟩ = some (.slice po3 pn3 pc3) ∧ w'.cell? ⟨gq, 0, none⟩ = some (.bool qs1) ∧ w'.cell? ⟨gq, 1, none⟩ = some (.slice qo1 qn1 qc1) ∧ w'.cell? ⟨gq, 2, none⟩ = some (.bool qs2) ∧ w'.cell? ⟨gq, 3, none⟩ = some (.slice qo2 qn2 qc2) ∧ w'.cell? ⟨gq, 4, none⟩ = some (.bool qs3) ∧ w'.cell? ⟨gq, 5, none⟩ = some (.slice qo3 qn3 qc3)) W := ⟨Xp.c 0 rfl, Xp.c 1 rfl, Xp.c 2 rfl, Xp.c 3 rfl, Xp.c 4 rfl, Xp.c 5 rfl, Xq.c 0 rfl, Xq.c 1 rfl, Xq.c 2 rfl, Xq.c 3 rfl, Xq.c 4 rfl, Xq.c 5 rfl⟩
theorem md_cells12 {ps1 ps2 ps3 : Bool} {po1 po2 po3 : Option Addr} {pn1 pc1 pn2 pc2 pn3 pc3 : Nat} {qs1 qs2 qs3 : Bool} {qo1 qo2 qo3 : Option Addr} {qn1 qc1 qn2 qc2 qn3 qc3 : Nat} {W : World} {gp gq g : Nat} {v0 v1 v2 v3 v4 v5 v6 v7 v8 v9 v10 v11 : Value} (Xp : Blk W gp [.bool ps1, .slice po1 pn1 pc1, .bool ps2, .slice po2 pn2 pc2, .bool ps3, .slice po3 pn3 pc3]) (Xq : Blk W gq [.bool qs1, .slice qo1 qn1 qc1, .bool qs2, .slice qo2 qn2 qc2, .bool qs3, .slice qo3 qn3 qc3]) (hp : gp ≠ g) (hq : gq ≠ g) : (fun w' => w'.cell? ⟨gp, 0, none⟩ = some (.bool ps1) ∧ w'.cell? ⟨gp, 1, none⟩ = some (.slice po1 pn1 pc1) ∧ w'.cell? ⟨gp, 2, none⟩ = some (.bool ps2) ∧ w'.cell? ⟨gp, 3, none⟩ = some (.slice po2 pn2 pc2) ∧ w'.cell? ⟨gp, 4, none⟩ = some (.bool ps3) ∧ w'.cell? ⟨gp, 5, none⟩ = some (.slice po3 pn3 pc3) ∧ w'.cell? ⟨gq, 0, none⟩ = some (.bool qs1) ∧ w'.cell? ⟨gq, 1, none⟩ = some (.slice qo1 qn1 qc1) ∧ w'.cell? ⟨gq, 2, none⟩ = some (.bool qs2) ∧ w'.cell? ⟨gq, 3, none⟩ = some (.slice qo2 qn2 qc2) ∧ w'.cell? ⟨gq, 4, none⟩ = some (.bool qs3) ∧ w'.cell? ⟨gq, 5, none⟩ = some (.slice qo3 qn3 qc3)) ((((((((((((W.setCell ⟨g, 0, none⟩ v0).setCell ⟨g, 1, none⟩ v1).setCell ⟨g, 2, none⟩ v2).setCell ⟨g, 3, none⟩ v3).setCell ⟨g, 4, none⟩ v4).setCell ⟨g, 5, none⟩ v5).setCell ⟨g, 6, none⟩ v6).setCell ⟨g, 7, none⟩ v7).setCell ⟨g, 8, none⟩ v8).setCell ⟨g, 9, none⟩ v9).setCell ⟨g, 10, none⟩ v10).setCell ⟨g, 11, none⟩ v11) := ⟨(Xp.set12 hp).c 0 rfl, (Xp.set12 hp).c 1 rfl, (Xp.set12 hp).c 2 rfl, (Xp.set12 hp).c 3 rfl, (Xp.set12 hp).c 4 rfl, (Xp.set12 hp).c 5 rfl, (Xq.set12 hq).c 0 rfl, (Xq.set12 hq).c 1 rfl, (Xq.set12 hq).c 2 rfl, (Xq.set12 hq).c 3 rfl, (Xq.set12 hq).c 4 rfl, (Xq.set12 hq).c 5 rfl⟩
set_option maxRecDepth 100000 in
set_option maxHeartbeats 16000000 in
theorem specMiddle_det (x y z u v t : Int) (hx : told x = true) (hy : told y = true) (hz : told z = true) (hu : told u = true) (hv : told v = true) (ht : told t = true) (w : World) : Calls Tryz.prog 27 #[PV x y z, PV u v t] w (VP (midV x y z u v t) w) := by
  have T0 : ArgsB w (((w.alloc (.cells #[.int .u64 (ww3 x), .int .u64 (ww2 x), .int .u64 (ww1 x), .int .u64 (ww0 x), .int .u64 (ww3 y), .int .u64 (ww2 y), .int .u64 (ww1 y), .int .u64 (ww0 y), .int .u64 (ww3 z), .int .u64 (ww2 z), .int .u64 (ww1 z), .int .u64 (ww0 z)] 32)).alloc (.cells #[.int .u64 (ww3 u), .int .u64 (ww2 u), .int .u64 (ww1 u), .int .u64 (ww0 u), .int .u64 (ww3 v), .int .u64 (ww2 v), .int .u64 (ww1 v), .int .u64 (ww0 v), .int .u64 (ww3 t), .int .u64 (ww2 t), .int .u64 (ww1 t), .int .u64 (ww0 t)] 32)).alloc (.cells #[.int .u64 0, .int .u64 0, .int .u64 0, .int .u64 0, .int .u64 0, .int .u64 0, .int .u64 0, .int .u64 0, .int .u64 0, .int .u64 0, .int .u64 0, .int .u64 0] 32)) [[.int .u64 (ww3 x), .int .u64 (ww2 x), .int .u64 (ww1 x), .int .u64 (ww0 x), .int .u64 (ww3 y), .int .u64 (ww2 y), .int .u64 (ww1 y), .int .u64 (ww0 y), .int .u64 (ww3 z), .int .u64 (ww2 z), .int .u64 (ww1 z), .int .u64 (ww0 z)], [.int .u64 (ww3 u), .int .u64 (ww2 u), .int .u64 (ww1 u), .int .u64 (ww0 u), .int .u64 (ww3 v), .int .u64 (ww2 v), .int .u64 (ww1 v), .int .u64 (ww0 v), .int .u64 (ww3 t), .int .u64 (ww2 t), .int .u64 (ww1 t), .int .u64 (ww0 t)], [.int .u64 0, .int .u64 0, .int .u64 0, .int .u64 0, .int .u64 0, .int .u64 0, .int .u64 0, .int .u64 0, .int .u64 0, .int .u64 0, .int .u64 0, .int .u64 0]] := ar3 _ _ _ _ _ _ w
  have R1 := specPointOk_det x y z hx hy hz
  have R2 := specPointOk_det u v t hu hv ht
  have F1 := l3Of_det x y z hx hy hz
  have F2 := l3Of_det u v t hu hv ht
  clear hx hy hz hu hv ht
  go_enter Tryz.func27, Tryz.ntmps27
  go_wp2_with fail
  generalize (((w.alloc (.cells #[.int .u64 (ww3 x), .int .u64 (ww2 x), .int .u64 (ww1 x), .int .u64 (ww0 x), .int .u64 (ww3 y), .int .u64 (ww2 y), .int .u64 (ww1 y), .int .u64 (ww0 y), .int .u64 (ww3 z), .int .u64 (ww2 z), .int .u64 (ww1 z), .int .u64 (ww0 z)] 32)).alloc (.cells #[.int .u64 (ww3 u), .int .u64 (ww2 u), .int .u64 (ww1 u), .int .u64 (ww0 u), .int .u64 (ww3 v), .int .u64 (ww2 v), .int .u64 (ww1 v), .int .u64 (ww0 v), .int .u64 (ww3 t), .int .u64 (ww2 t), .int .u64 (ww1 t), .int .u64 (ww0 t)] 32)).alloc (.cells #[.int .u64 0, .int .u64 0, .int .u64 0, .int .u64 0, .int .u64 0, .int .u64 0, .int .u64 0, .int .u64 0, .int .u64 0, .int .u64 0, .int .u64 0, .int .u64 0] 32)) = WW at *
  refine (R1 _).mono ?_
  rintro e w1 ⟨rfl, hB⟩
  replace T0 := T0.step hB
  clear hB
  by_cases h1 : ptB x y z = true
  · rw [h1]
    have X0 : Blk _ w.heap.size _ := T0.b 0 rfl; have Y0 : Blk _ (w.heap.size + 1) _ := T0.b 1 rfl; have p0 := X0.c 0 rfl; have q0 := Y0.c 0 rfl; have p1 := X0.c 1 rfl; have q1 := Y0.c 1 rfl; have p2 := X0.c 2 rfl; have q2 := Y0.c 2 rfl; have p3 := X0.c 3 rfl; have q3 := Y0.c 3 rfl; have p4 := X0.c 4 rfl; have q4 := Y0.c 4 rfl; have p5 := X0.c 5 rfl; have q5 := Y0.c 5 rfl; have p6 := X0.c 6 rfl; have q6 := Y0.c 6 rfl; have p7 := X0.c 7 rfl; have q7 := Y0.c 7 rfl; have p8 := X0.c 8 rfl; have q8 := Y0.c 8 rfl; have p9 := X0.c 9 rfl; have q9 := Y0.c 9 rfl; have p10 := X0.c 10 rfl; have q10 := Y0.c 10 rfl; have p11 := X0.c 11 rfl; have q11 := Y0.c 11 rfl; clear X0 Y0
    go_wp2_with fail
    refine (R2 _).mono ?_
    rintro e w2 ⟨rfl, hB⟩
    replace T0 := T0.step hB
    clear hB p0 q0 p1 q1 p2 q2 p3 q3 p4 q4 p5 q5 p6 q6 p7 q7 p8 q8 p9 q9 p10 q10 p11 q11
    by_cases h2 : ptB u v t = true
    · rw [h2]
      obtain ⟨pz, -, -, -⟩ := ptB_small h1
      obtain ⟨pt, -, -, -⟩ := ptB_small h2
      have hne : 2 * (z * t) ≠ 0 := by
        have h := Int.mul_pos pz pt
        omega
      have HV : Hid (midV x y z u v t = pmV (x * t + u * z) (y * t + v * z) (2 * (z * t))) := by show _ = _; unfold midV; rw [h1, h2, if_pos (show (true && true) = true from rfl)]
      have HP : Hid (pmV (x * t + u * z) (y * t + v * z) (2 * (z * t)) = ptV (shareZ (x * t + u * z) (Int.gcd (Int.gcd (x * t + u * z) (y * t + v * z) : Int) (2 * (z * t)) : Int) (decide (2 * (z * t) < 0))) (shareZ (y * t + v * z) (Int.gcd (Int.gcd (x * t + u * z) (y * t + v * z) : Int) (2 * (z * t)) : Int) (decide (2 * (z * t) < 0))) (shareZ (2 * (z * t)) (Int.gcd (Int.gcd (x * t + u * z) (y * t + v * z) : Int) (2 * (z * t)) : Int) (decide (2 * (z * t) < 0)))) := by show _ = _; unfold pmV; rw [if_neg hne]
      obtain ⟨r0, r1, r2, r3, r4, r5, r6, r7, r8, r9, r10, r11, f, hf⟩ := pmV_ex (x * t + u * z) (y * t + v * z) (2 * (z * t))
      have HO : Hid (midV x y z u v t = .tuple #[.agg #[.int .u64 r0, .int .u64 r1, .int .u64 r2, .int .u64 r3, .int .u64 r4, .int .u64 r5, .int .u64 r6, .int .u64 r7, .int .u64 r8, .int .u64 r9, .int .u64 r10, .int .u64 r11], .bool f]) := HV.out.trans hf
      have ht := HP.out.symm.trans hf
      clear hf HV HP h1 h2 R1 R2 pz pt
      have X0 : Blk _ w.heap.size _ := T0.b 0 rfl; have Y0 : Blk _ (w.heap.size + 1) _ := T0.b 1 rfl; have p0 := X0.c 0 rfl; have q0 := Y0.c 0 rfl; have p1 := X0.c 1 rfl; have q1 := Y0.c 1 rfl; have p2 := X0.c 2 rfl; have q2 := Y0.c 2 rfl; have p3 := X0.c 3 rfl; have q3 := Y0.c 3 rfl; have p4 := X0.c 4 rfl; have q4 := Y0.c 4 rfl; have p5 := X0.c 5 rfl; have q5 := Y0.c 5 rfl; have p6 := X0.c 6 rfl; have q6 := Y0.c 6 rfl; have p7 := X0.c 7 rfl; have q7 := Y0.c 7 rfl; have p8 := X0.c 8 rfl; have q8 := Y0.c 8 rfl; have p9 := X0.c 9 rfl; have q9 := Y0.c 9 rfl; have p10 := X0.c 10 rfl; have q10 := Y0.c 10 rfl; have p11 := X0.c 11 rfl; have q11 := Y0.c 11 rfl; clear X0 Y0
      go_wp2_with fail
      refine (F1 _).mono ?_
      rintro e w3 ⟨ps1, po1, pn1, pc1, pd1, ps2, po2, pn2, pc2, pd2, ps3, po3, pn3, pc3, pd3, rfl, Np1, Np2, Np3, hB⟩
      have hgp : w.heap.size + 2 < w3.heap.size := ((T0.step hB).b 2 rfl).lt
      replace T0 := (T0.step hB).alloc (.cells #[.bool ps1, .slice po1 pn1 pc1, .bool ps2, .slice po2 pn2 pc2, .bool ps3, .slice po3 pn3 pc3] 43)
      have Xp := Blk.new w3 [.bool ps1, .slice po1 pn1 pc1, .bool ps2, .slice po2 pn2 pc2, .bool ps3, .slice po3 pn3 pc3] 43 rfl
      replace Np1 := Np1.alloc (.cells #[.bool ps1, .slice po1 pn1 pc1, .bool ps2, .slice po2 pn2 pc2, .bool ps3, .slice po3 pn3 pc3] 43); replace Np2 := Np2.alloc (.cells #[.bool ps1, .slice po1 pn1 pc1, .bool ps2, .slice po2 pn2 pc2, .bool ps3, .slice po3 pn3 pc3] 43); replace Np3 := Np3.alloc (.cells #[.bool ps1, .slice po1 pn1 pc1, .bool ps2, .slice po2 pn2 pc2, .bool ps3, .slice po3 pn3 pc3] 43)
      clear hB F1 p0 q0 p1 q1 p2 q2 p3 q3 p4 q4 p5 q5 p6 q6 p7 q7 p8 q8 p9 q9 p10 q10 p11 q11
      have X0 : Blk _ w.heap.size _ := T0.b 0 rfl; have Y0 : Blk _ (w.heap.size + 1) _ := T0.b 1 rfl; have p0 := X0.c 0 rfl; have q0 := Y0.c 0 rfl; have p1 := X0.c 1 rfl; have q1 := Y0.c 1 rfl; have p2 := X0.c 2 rfl; have q2 := Y0.c 2 rfl; have p3 := X0.c 3 rfl; have q3 := Y0.c 3 rfl; have p4 := X0.c 4 rfl; have q4 := Y0.c 4 rfl; have p5 := X0.c 5 rfl; have q5 := Y0.c 5 rfl; have p6 := X0.c 6 rfl; have q6 := Y0.c 6 rfl; have p7 := X0.c 7 rfl; have q7 := Y0.c 7 rfl; have p8 := X0.c 8 rfl; have q8 := Y0.c 8 rfl; have p9 := X0.c 9 rfl; have q9 := Y0.c 9 rfl; have p10 := X0.c 10 rfl; have q10 := Y0.c 10 rfl; have p11 := X0.c 11 rfl; have q11 := Y0.c 11 rfl; clear X0 Y0
      go_wp2_with fail
      refine (F2 _).mono ?_
      rintro e w4 ⟨qs1, qo1, qn1, qc1, qd1, qs2, qo2, qn2, qc2, qd2, qs3, qo3, qn3, qc3, qd3, rfl, Nq1, Nq2, Nq3, hB⟩
      replace Np1 := Np1.below hB; replace Np2 := Np2.below hB; replace Np3 := Np3.below hB
      replace T0 := (T0.step hB).alloc (.cells #[.bool qs1, .slice qo1 qn1 qc1, .bool qs2, .slice qo2 qn2 qc2, .bool qs3, .slice qo3 qn3 qc3] 43)
      replace Xp := Xp.step hB
      have hgq : w3.heap.size < w4.heap.size := Xp.lt
      replace Xp := Xp.alloc (.cells #[.bool qs1, .slice qo1 qn1 qc1, .bool qs2, .slice qo2 qn2 qc2, .bool qs3, .slice qo3 qn3 qc3] 43)
      have Xq := Blk.new w4 [.bool qs1, .slice qo1 qn1 qc1, .bool qs2, .slice qo2 qn2 qc2, .bool qs3, .slice qo3 qn3 qc3] 43 rfl
      replace Np1 := (Np1.alloc (.cells #[.bool qs1, .slice qo1 qn1 qc1, .bool qs2, .slice qo2 qn2 qc2, .bool qs3, .slice qo3 qn3 qc3] 43)).drew; replace Np2 := (Np2.alloc (.cells #[.bool qs1, .slice qo1 qn1 qc1, .bool qs2, .slice qo2 qn2 qc2, .bool qs3, .slice qo3 qn3 qc3] 43)).drew; replace Np3 := (Np3.alloc (.cells #[.bool qs1, .slice qo1 qn1 qc1, .bool qs2, .slice qo2 qn2 qc2, .bool qs3, .slice qo3 qn3 qc3] 43)).drew; replace Nq1 := (Nq1.alloc (.cells #[.bool qs1, .slice qo1 qn1 qc1, .bool qs2, .slice qo2 qn2 qc2, .bool qs3, .slice qo3 qn3 qc3] 43)).drew; replace Nq2 := (Nq2.alloc (.cells #[.bool qs1, .slice qo1 qn1 qc1, .bool qs2, .slice qo2 qn2 qc2, .bool qs3, .slice qo3 qn3 qc3] 43)).drew; replace Nq3 := (Nq3.alloc (.cells #[.bool qs1, .slice qo1 qn1 qc1, .bool qs2, .slice qo2 qn2 qc2, .bool qs3, .slice qo3 qn3 qc3] 43)).drew
      clear hB F2 p0 q0 p1 q1 p2 q2 p3 q3 p4 q4 p5 q5 p6 q6 p7 q7 p8 q8 p9 q9 p10 q10 p11 q11
      have tk0 : True := trivial; have tk1 : True := trivial; have tk2 : True := trivial; have tk3 : True := trivial; have tk4 : True := trivial; have tk5 : True := trivial; have tk6 : True := trivial; have tk7 : True := trivial
      go_upto_region 5 with fail
      generalize w4.alloc (.cells #[.bool qs1, .slice qo1 qn1 qc1, .bool qs2, .slice qo2 qn2 qc2, .bool qs3, .slice qo3 qn3 qc3] 43) = W4' at *
      generalize w4.heap.size = gq at *
      generalize w3.heap.size = gp at *
      go_region_held3 (fun w' => w'.cell? ⟨gp, 0, none⟩ = some (.bool ps1) ∧ w'.cell? ⟨gp, 1, none⟩ = some (.slice po1 pn1 pc1) ∧ w'.cell? ⟨gp, 2, none⟩ = some (.bool ps2) ∧ w'.cell? ⟨gp, 3, none⟩ = some (.slice po2 pn2 pc2) ∧ w'.cell? ⟨gp, 4, none⟩ = some (.bool ps3) ∧ w'.cell? ⟨gp, 5, none⟩ = some (.slice po3 pn3 pc3) ∧ w'.cell? ⟨gq, 0, none⟩ = some (.bool qs1) ∧ w'.cell? ⟨gq, 1, none⟩ = some (.slice qo1 qn1 qc1) ∧ w'.cell? ⟨gq, 2, none⟩ = some (.bool qs2) ∧ w'.cell? ⟨gq, 3, none⟩ = some (.slice qo2 qn2 qc2) ∧ w'.cell? ⟨gq, 4, none⟩ = some (.bool qs3) ∧ w'.cell? ⟨gq, 5, none⟩ = some (.slice qo3 qn3 qc3)) (first | (with_reducible exact md_cells Xp Xq) | (with_reducible exact md_cells Xp.drew Xq.drew) | (with_reducible exact md_cells12 Xp Xq (by omega) (by omega)))
        (first
          | (go_at_call 44; have _t := tk0; refine (mul_any ps1 qs3 po1 qo3 pn1 qn3 pc1 qc3 8 pd1 qd3 _ _ _ Np1 Nq3 (by omega)).mono ?_; rintro e k1 ⟨fas, fao, fan, fac, fad, rfl, Nfa, hB⟩; (first | (have T1 := T0.step hB; replace Xp := Xp.step hB; replace Xq := Xq.step hB) | (have T1 := T0.drew.step hB; replace Xp := Xp.drew.step hB; replace Xq := Xq.drew.step hB)); clear T0; have T0 := T1; clear T1; replace Np1 := Np1.below hB; replace Np2 := Np2.below hB; replace Np3 := Np3.below hB; replace Nq1 := Nq1.below hB; replace Nq2 := Nq2.below hB; replace Nq3 := Nq3.below hB; clear hB tk0 _t)
          | (go_at_call 44; have _t := tk1; refine (mul_any qs1 ps3 qo1 po3 qn1 pn3 qc1 pc3 8 qd1 pd3 _ _ _ Nq1 Np3 (by omega)).mono ?_; rintro e k2 ⟨fbs, fbo, fbn, fbc, fbd, rfl, Nfb, hB⟩; (first | (have T1 := T0.step hB; replace Xp := Xp.step hB; replace Xq := Xq.step hB) | (have T1 := T0.drew.step hB; replace Xp := Xp.drew.step hB; replace Xq := Xq.drew.step hB)); clear T0; have T0 := T1; clear T1; replace Np1 := Np1.below hB; replace Np2 := Np2.below hB; replace Np3 := Np3.below hB; replace Nq1 := Nq1.below hB; replace Nq2 := Nq2.below hB; replace Nq3 := Nq3.below hB; replace Nfa := Nfa.below hB; clear hB tk1 _t)
          | (go_at_call 46; have _t := tk2; refine (add_any fas fbs fao fbo fan fbn fac fbc 16 fad fbd _ _ _ Nfa Nfb (by omega)).mono ?_; rintro e k3 ⟨fcs, fco, fcn, fcc, fcd, rfl, Nfc, hB⟩; (first | (have T1 := T0.step hB; replace Xp := Xp.step hB; replace Xq := Xq.step hB) | (have T1 := T0.drew.step hB; replace Xp := Xp.drew.step hB; replace Xq := Xq.drew.step hB)); clear T0; have T0 := T1; clear T1; replace Np1 := Np1.below hB; replace Np2 := Np2.below hB; replace Np3 := Np3.below hB; replace Nq1 := Nq1.below hB; replace Nq2 := Nq2.below hB; replace Nq3 := Nq3.below hB; clear hB tk2 _t; clear Nfa Nfb)
          | (go_at_call 44; have _t := tk3; refine (mul_any ps2 qs3 po2 qo3 pn2 qn3 pc2 qc3 8 pd2 qd3 _ _ _ Np2 Nq3 (by omega)).mono ?_; rintro e k4 ⟨fds, fdo, fdn, fdc, fdd, rfl, Nfd, hB⟩; (first | (have T1 := T0.step hB; replace Xp := Xp.step hB; replace Xq := Xq.step hB) | (have T1 := T0.drew.step hB; replace Xp := Xp.drew.step hB; replace Xq := Xq.drew.step hB)); clear T0; have T0 := T1; clear T1; replace Np1 := Np1.below hB; replace Np2 := Np2.below hB; replace Np3 := Np3.below hB; replace Nq1 := Nq1.below hB; replace Nq2 := Nq2.below hB; replace Nq3 := Nq3.below hB; replace Nfc := Nfc.below hB; clear hB tk3 _t)
          | (go_at_call 44; have _t := tk4; refine (mul_any qs2 ps3 qo2 po3 qn2 pn3 qc2 pc3 8 qd2 pd3 _ _ _ Nq2 Np3 (by omega)).mono ?_; rintro e k5 ⟨fes, feo, fen, fec, fed, rfl, Nfe, hB⟩; (first | (have T1 := T0.step hB; replace Xp := Xp.step hB; replace Xq := Xq.step hB) | (have T1 := T0.drew.step hB; replace Xp := Xp.drew.step hB; replace Xq := Xq.drew.step hB)); clear T0; have T0 := T1; clear T1; replace Np1 := Np1.below hB; replace Np2 := Np2.below hB; replace Np3 := Np3.below hB; replace Nq1 := Nq1.below hB; replace Nq2 := Nq2.below hB; replace Nq3 := Nq3.below hB; replace Nfc := Nfc.below hB; replace Nfd := Nfd.below hB; clear hB tk4 _t)
          | (go_at_call 46; refine (add_any fds fes fdo feo fdn fen fdc fec 16 fdd fed _ _ _ Nfd Nfe (by omega)).mono ?_; rintro e k6 ⟨ffs, ffo, ffn, ffc, ffd, rfl, Nff, hB⟩; (first | (have T1 := T0.step hB; replace Xp := Xp.step hB; replace Xq := Xq.step hB) | (have T1 := T0.drew.step hB; replace Xp := Xp.drew.step hB; replace Xq := Xq.drew.step hB)); clear T0; have T0 := T1; clear T1; replace Np1 := Np1.below hB; replace Np2 := Np2.below hB; replace Np3 := Np3.below hB; replace Nq1 := Nq1.below hB; replace Nq2 := Nq2.below hB; replace Nq3 := Nq3.below hB; replace Nfc := Nfc.below hB; clear hB; clear Nfd Nfe)
          | (go_at_call 42; refine (int_any 2 _ (by decide) (by decide)).mono ?_; rintro e k7 ⟨fgs, fgo, fgn, fgc, fgd, rfl, Nfg, hB⟩; (first | (have T1 := T0.step hB; replace Xp := Xp.step hB; replace Xq := Xq.step hB) | (have T1 := T0.drew.step hB; replace Xp := Xp.drew.step hB; replace Xq := Xq.drew.step hB)); clear T0; have T0 := T1; clear T1; replace Np1 := Np1.below hB; replace Np2 := Np2.below hB; replace Np3 := Np3.below hB; replace Nq1 := Nq1.below hB; replace Nq2 := Nq2.below hB; replace Nq3 := Nq3.below hB; replace Nfc := Nfc.below hB; replace Nff := Nff.below hB; clear hB)
          | (go_at_call 44; have _t := tk5; refine (mul_any ps3 qs3 po3 qo3 pn3 qn3 pc3 qc3 8 pd3 qd3 _ _ _ Np3 Nq3 (by omega)).mono ?_; rintro e k8 ⟨fhs, fho, fhn, fhc, fhd, rfl, Nfh, hB⟩; (first | (have T1 := T0.step hB; replace Xp := Xp.step hB; replace Xq := Xq.step hB) | (have T1 := T0.drew.step hB; replace Xp := Xp.drew.step hB; replace Xq := Xq.drew.step hB)); clear T0; have T0 := T1; clear T1; replace Nfc := Nfc.below hB; replace Nff := Nff.below hB; replace Nfg := Nfg.below hB; clear hB tk5 _t; clear Np1 Np2 Np3 Nq1 Nq2 Nq3)
          | (go_at_call 44; refine (mul_any fgs fhs fgo fho fgn fhn fgc fhc 16 fgd fhd _ _ _ (num_more Nfg (by omega)) Nfh (by omega)).mono ?_; rintro e k9 ⟨fis, fio, fin, fic, fid, rfl, Nfi, hB⟩; (first | (have T1 := T0.step hB; replace Xp := Xp.step hB; replace Xq := Xq.step hB) | (have T1 := T0.drew.step hB; replace Xp := Xp.drew.step hB; replace Xq := Xq.drew.step hB)); clear T0; have T0 := T1; clear T1; replace Nfc := Nfc.below hB; replace Nff := Nff.below hB; clear hB; clear Nfg Nfh)
          | (go_at_call 55; refine (l3Make_any fcs fco fcn fcc fcd ffs ffo ffn ffc ffd fis fio fin fic fid _ _ _ 32 (by omega) (by omega) _ (num_more Nfc (by omega)) (num_more Nff (by omega)) Nfi hne).mono ?_; rintro e k10 ⟨bs1, bo1, bn1, bc1, bd1, bs2, bo2, bn2, bc2, bd2, bs3, bo3, bn3, bc3, bd3, rfl, M1, M2, M3, hB⟩; (first | (have T1 := T0.step hB; replace Xp := Xp.step hB; replace Xq := Xq.step hB) | (have T1 := T0.drew.step hB; replace Xp := Xp.drew.step hB; replace Xq := Xq.drew.step hB)); clear T0; have T0 := T1; clear T1; clear hB Nfc Nff Nfi)
          | (go_at_call 54; refine (l3Point_any bs1 bo1 bn1 bc1 bd1 bs2 bo2 bn2 bc2 bd2 bs3 bo3 bn3 bc3 bd3 _ _ _ _ (by omega) _ M1 M2 M3).mono ?_; rw [ht]; rintro e k11 ⟨rfl, hB⟩; (first | (have T1 := T0.step hB; replace Xp := Xp.step hB; replace Xq := Xq.step hB) | (have T1 := T0.drew.step hB; replace Xp := Xp.drew.step hB; replace Xq := Xq.drew.step hB)); clear T0; have T0 := T1; clear T1; clear hB M1 M2 M3; have o0 := (T0.b 2 rfl).c 0 rfl; have u0 := (T0.b 2 rfl).f 0 rfl; have o1 := (T0.b 2 rfl).c 1 rfl; have u1 := (T0.b 2 rfl).f 1 rfl; have o2 := (T0.b 2 rfl).c 2 rfl; have u2 := (T0.b 2 rfl).f 2 rfl; have o3 := (T0.b 2 rfl).c 3 rfl; have u3 := (T0.b 2 rfl).f 3 rfl; have o4 := (T0.b 2 rfl).c 4 rfl; have u4 := (T0.b 2 rfl).f 4 rfl; have o5 := (T0.b 2 rfl).c 5 rfl; have u5 := (T0.b 2 rfl).f 5 rfl; have o6 := (T0.b 2 rfl).c 6 rfl; have u6 := (T0.b 2 rfl).f 6 rfl; have o7 := (T0.b 2 rfl).c 7 rfl; have u7 := (T0.b 2 rfl).f 7 rfl; have o8 := (T0.b 2 rfl).c 8 rfl; have u8 := (T0.b 2 rfl).f 8 rfl; have o9 := (T0.b 2 rfl).c 9 rfl; have u9 := (T0.b 2 rfl).f 9 rfl; have o10 := (T0.b 2 rfl).c 10 rfl; have u10 := (T0.b 2 rfl).f 10 rfl; have o11 := (T0.b 2 rfl).c 11 rfl; have u11 := (T0.b 2 rfl).f 11 rfl; have olt := (T0.b 2 rfl).lt))
      all_goals have HB := T0.below
      all_goals clear T0 Xp Xq
      all_goals go_wp2
      all_goals refine bodyPost_ret (v := .tuple #[.agg #[.int .u64 r0, .int .u64 r1, .int .u64 r2, .int .u64 r3, .int .u64 r4, .int .u64 r5, .int .u64 r6, .int .u64 r7, .int .u64 r8, .int .u64 r9, .int .u64 r10, .int .u64 r11], .bool f]) (by simp [results, Tryz.results27, go_sem, o0, o1, o2, o3, o4, o5, o6, o7, o8, o9, o10, o11]) rfl ?_
      all_goals refine ⟨by rw [HO.out], ?_⟩
      all_goals repeat' (refine Below.setCell ?_ (by simp; try omega) _)
      all_goals first | exact HB | exact HB.drew
    · replace h2 := Bool.eq_false_iff.2 h2
      rw [h2]
      have HO : Hid (midV x y z u v t = .tuple #[.agg #[.int .u64 0, .int .u64 0, .int .u64 0, .int .u64 0, .int .u64 0, .int .u64 0, .int .u64 0, .int .u64 0, .int .u64 0, .int .u64 0, .int .u64 0, .int .u64 0], .bool false]) := by show _ = _; unfold midV; rw [h2]; simp
      have o0 := (T0.b 2 rfl).c 0 rfl; have u0 := (T0.b 2 rfl).f 0 rfl; have o1 := (T0.b 2 rfl).c 1 rfl; have u1 := (T0.b 2 rfl).f 1 rfl; have o2 := (T0.b 2 rfl).c 2 rfl; have u2 := (T0.b 2 rfl).f 2 rfl; have o3 := (T0.b 2 rfl).c 3 rfl; have u3 := (T0.b 2 rfl).f 3 rfl; have o4 := (T0.b 2 rfl).c 4 rfl; have u4 := (T0.b 2 rfl).f 4 rfl; have o5 := (T0.b 2 rfl).c 5 rfl; have u5 := (T0.b 2 rfl).f 5 rfl; have o6 := (T0.b 2 rfl).c 6 rfl; have u6 := (T0.b 2 rfl).f 6 rfl; have o7 := (T0.b 2 rfl).c 7 rfl; have u7 := (T0.b 2 rfl).f 7 rfl; have o8 := (T0.b 2 rfl).c 8 rfl; have u8 := (T0.b 2 rfl).f 8 rfl; have o9 := (T0.b 2 rfl).c 9 rfl; have u9 := (T0.b 2 rfl).f 9 rfl; have o10 := (T0.b 2 rfl).c 10 rfl; have u10 := (T0.b 2 rfl).f 10 rfl; have o11 := (T0.b 2 rfl).c 11 rfl; have u11 := (T0.b 2 rfl).f 11 rfl; have olt := (T0.b 2 rfl).lt
      have HB := T0.below
      clear T0
      go_wp2
      refine bodyPost_ret (v := .tuple #[.agg #[.int .u64 0, .int .u64 0, .int .u64 0, .int .u64 0, .int .u64 0, .int .u64 0, .int .u64 0, .int .u64 0, .int .u64 0, .int .u64 0, .int .u64 0, .int .u64 0], .bool false]) (by simp [results, Tryz.results27, go_sem, o0, o1, o2, o3, o4, o5, o6, o7, o8, o9, o10, o11]) rfl ?_
      refine ⟨by rw [HO.out], ?_⟩
      repeat' (refine Below.setCell ?_ (by simp; try omega) _)
      exact HB
  · replace h1 := Bool.eq_false_iff.2 h1
    rw [h1]
    have HO : Hid (midV x y z u v t = .tuple #[.agg #[.int .u64 0, .int .u64 0, .int .u64 0, .int .u64 0, .int .u64 0, .int .u64 0, .int .u64 0, .int .u64 0, .int .u64 0, .int .u64 0, .int .u64 0, .int .u64 0], .bool false]) := by show _ = _; unfold midV; rw [h1]; simp
    have o0 := (T0.b 2 rfl).c 0 rfl; have u0 := (T0.b 2 rfl).f 0 rfl; have o1 := (T0.b 2 rfl).c 1 rfl; have u1 := (T0.b 2 rfl).f 1 rfl; have o2 := (T0.b 2 rfl).c 2 rfl; have u2 := (T0.b 2 rfl).f 2 rfl; have o3 := (T0.b 2 rfl).c 3 rfl; have u3 := (T0.b 2 rfl).f 3 rfl; have o4 := (T0.b 2 rfl).c 4 rfl; have u4 := (T0.b 2 rfl).f 4 rfl; have o5 := (T0.b 2 rfl).c 5 rfl; have u5 := (T0.b 2 rfl).f 5 rfl; have o6 := (T0.b 2 rfl).c 6 rfl; have u6 := (T0.b 2 rfl).f 6 rfl; have o7 := (T0.b 2 rfl).c 7 rfl; have u7 := (T0.b 2 rfl).f 7 rfl; have o8 := (T0.b 2 rfl).c 8 rfl; have u8 := (T0.b 2 rfl).f 8 rfl; have o9 := (T0.b 2 rfl).c 9 rfl; have u9 := (T0.b 2 rfl).f 9 rfl; have o10 := (T0.b 2 rfl).c 10 rfl; have u10 := (T0.b 2 rfl).f 10 rfl; have o11 := (T0.b 2 rfl).c 11 rfl; have u11 := (T0.b 2 rfl).f 11 rfl; have olt := (T0.b 2 rfl).lt
    have HB := T0.below
    clear T0
    go_wp2
    refine bodyPost_ret (v := .tuple #[.agg #[.int .u64 0, .int .u64 0, .int .u64 0, .int .u64 0, .int .u64 0, .int .u64 0, .int .u64 0, .int .u64 0, .int .u64 0, .int .u64 0, .int .u64 0, .int .u64 0], .bool false]) (by simp [results, Tryz.results27, go_sem, o0, o1, o2, o3, o4, o5, o6, o7, o8, o9, o10, o11]) rfl ?_
    refine ⟨by rw [HO.out], ?_⟩
    repeat' (refine Below.setCell ?_ (by simp; try omega) _)
    exact HB
end Go.Proofs.YtniccikkhddofaaGreat

/- Segments drawn from a code. -/
namespace Go.Proofs.YtniccikkhddofaaGreat
open Go.RowKit
/-- A number of sixty-four bits. -/
def I64 (x : Int) : Prop := -9223372036854775808 ≤ x ∧ x ≤ 9223372036854775807
def IsI (v : Value) : Prop := ∃ x : Int, v = .int .i64 x ∧ I64 x
/-- Some segment. -/
def IsSg (v : Value) : Prop := ∃ a b c d : Int, v = .agg #[.int .i64 a, .int .i64 b, .int .i64 c, .int .i64 d] ∧ I64 a ∧ I64 b ∧ I64 c ∧ I64 d
set_option maxRecDepth 100000 in
set_option maxHeartbeats 2000000 in
theorem off_any (g : Nat) (ao : Option Addr) (n cap : Nat) (cs : List Int) (w : World) (R : Rdr w g ao n cap cs) :
    Calls Tryz.prog 50 #[.pointer (some ⟨g, 0, none⟩), .int .i64 (-1000000), .int .i64 1000000] w (RdP g ao n cap cs IsI w) := by
  go_enter Tryz.func50, Tryz.ntmps50
  go_wp2_with fail
  refine (once_any 24 (by decide) (by decide) g ao n cap cs _ R).mono ?_
  rintro e w1 ⟨_, rfl, ⟨b, rfl⟩, R1, K⟩
  clear R
  cases b
  · go_wp2_with fail
    refine (near_pm g ao n cap cs _ R1).mono ?_
    rintro e w2 ⟨_, rfl, ⟨x, rfl, x0, x1⟩, R2, K2⟩
    replace K := K.trans K2
    clear R1 K2
    go_wp2
    go_ret
    exact ⟨_, rfl, ⟨x, rfl, by constructor <;> omega⟩, R2, K⟩
  · have G := Blk.new w1 [.int .i64 (-1000001), .int .i64 1000001, .int .i64 (-9223372036854775808), .int .i64 9223372036854775807] 2 rfl
    rw [show ([.int .i64 (-1000001), .int .i64 1000001, .int .i64 (-9223372036854775808), .int .i64 9223372036854775807] : List Value).toArray = #[.int .i64 (-1000001), .int .i64 1000001, .int .i64 (-9223372036854775808), .int .i64 9223372036854775807] from rfl] at G
    have hgl := R1.lt
    have hgn : w1.heap.size ≠ g := by omega
    have R := R1.alloc (.cells #[.int .i64 (-1000001), .int .i64 1000001, .int .i64 (-9223372036854775808), .int .i64 9223372036854775807] 2)
    replace K := K.alloc (.cells #[.int .i64 (-1000001), .int .i64 1000001, .int .i64 (-9223372036854775808), .int .i64 9223372036854775807] 2)
    clear R1
    go_wp2_with fail
    refine (below_any 4 (by decide) (by decide) g ao n cap cs _ R).mono ?_
    rintro e w6 ⟨_, rfl, ⟨j, rfl, j0, j1⟩, R6, K6⟩
    replace G := G.kept K6 hgn
    replace K := K.trans K6
    obtain ⟨k, rfl⟩ : ∃ k : Nat, j = k := ⟨j.toNat, by omega⟩
    obtain ⟨u, hu, hus⟩ : ∃ u : Int, w6.cell? ⟨w1.heap.size, k, none⟩ = some (.int .i64 u) ∧ I64 u := by
      rcases (by omega : k = 0 ∨ k = 1 ∨ k = 2 ∨ k = 3) with rfl | rfl | rfl | rfl
      · exact ⟨_, G.c 0 rfl, by constructor <;> decide⟩
      · exact ⟨_, G.c 1 rfl, by constructor <;> decide⟩
      · exact ⟨_, G.c 2 rfl, by constructor <;> decide⟩
      · exact ⟨_, G.c 3 rfl, by constructor <;> decide⟩
    clear G R K6
    go_wp2
    go_ret
    exact ⟨_, rfl, ⟨u, rfl, hus⟩, R6, K⟩
theorem segOf_ex (x y u v : Int) (hx : I64 x) (hy : I64 y) (hu : I64 u) (hv : I64 v) : ∃ a b c d k, I64 a ∧ I64 b ∧ I64 c ∧ I64 d ∧ ∀ w, Calls Tryz.prog 51 #[.agg #[.int .i64 x, .int .i64 y], .agg #[.int .i64 u, .int .i64 v]] w (VP (.tuple #[.agg #[.int .i64 a, .int .i64 b, .int .i64 c, .int .i64 d], .bool k]) w) := by
  have hz : I64 0 := by constructor <;> decide
  refine ⟨_, _, _, _, _, ?_, ?_, ?_, ?_, fun w => specSegOf_any x y u v _ _ _ _ _ _ rfl rfl rfl rfl rfl rfl w⟩
  all_goals
    generalize lessI u v x y = l
    generalize segOk _ _ _ _ = k
    cases k <;> cases l <;> first | exact hz | exact hx | exact hy | exact hu | exact hv
end Go.Proofs.YtniccikkhddofaaGreat

/- Segments drawn from a code: the walk. -/
namespace Go.Proofs.YtniccikkhddofaaGreat
open Go.RowKit
set_option maxRecDepth 100000 in
theorem eqSpo (x y u v : Int) (w : World) : (Op.equalIn 10000 25 (.agg #[.int .i64 x, .int .i64 y]) (.agg #[.int .i64 u, .int .i64 v])).run Tryz.prog w = .ok (decide (x = u) && decide (y = v)) w := by
  have u3 := Tryz.underlying2
  have a3 := Tryz.isAgg2
  have z3 := Tryz.sizeOf2
  rw [show (10000 : Nat) = 9999 + 1 from rfl, Op.equalIn]
  simp only [Sem.run_bind, run_underlying Tryz.underlying25, Result.andThen_ok]
  go_simp
  by_cases h3 : x = u
  · subst h3
    by_cases h2 : y = v
    · subst h2
      simp
    · simp [h2]
  · simp [h3]
set_option maxRecDepth 100000 in
set_option maxHeartbeats 8000000 in
theorem seg_any (g : Nat) (ao : Option Addr) (n cap : Nat) (cs : List Int) (w : World) (h : Rdr w g ao n cap cs) :
    Calls Tryz.prog 25 #[.pointer (some ⟨g, 0, none⟩)] w (RdP g ao n cap cs IsSg w) := by
  have hg := h.lt
  have hne : w.heap.size ≠ g := by omega
  have B := Blk.new w [.int .i64 0, .int .i64 0, .int .i64 0, .int .i64 0] 27 rfl
  rw [show ([.int .i64 0, .int .i64 0, .int .i64 0, .int .i64 0] : List Value).toArray = #[.int .i64 0, .int .i64 0, .int .i64 0, .int .i64 0] from rfl] at B
  have R := h.alloc (.cells #[.int .i64 0, .int .i64 0, .int .i64 0, .int .i64 0] 27)
  have K := (Kept.refl g w).alloc (.cells #[.int .i64 0, .int .i64 0, .int .i64 0, .int .i64 0] 27)
  clear h
  go_enter Tryz.func25, Tryz.ntmps25
  go_wp2_with fail
  refine (below_any 20 (by decide) (by decide) g ao n cap cs _ R).mono ?_
  rintro e w1 ⟨_, rfl, ⟨v, rfl, v0, v1⟩, R1, K1⟩
  replace K := K.trans K1
  replace B := B.kept K1 hne
  clear R K1
  have R := R1
  clear R1
  by_cases hv0 : v = 0
  · subst hv0
    go_wp2_with fail
    refine (off_any g ao n cap cs _ R).mono ?_
    rintro e w2 ⟨_, rfl, ⟨a, rfl, ia⟩, R1, K1⟩
    replace K := K.trans K1
    replace B := B.kept K1 hne
    clear R K1
    have R := R1
    clear R1
    go_wp2_with fail
    refine (off_any g ao n cap cs _ R).mono ?_
    rintro e w3 ⟨_, rfl, ⟨b, rfl, ib⟩, R1, K1⟩
    replace K := K.trans K1
    replace B := B.kept K1 hne
    clear R K1
    have R := R1
    clear R1
    go_wp2_with fail
    refine (off_any g ao n cap cs _ R).mono ?_
    rintro e w4 ⟨_, rfl, ⟨c, rfl, ic⟩, R1, K1⟩
    replace K := K.trans K1
    replace B := B.kept K1 hne
    clear R K1
    have R := R1
    clear R1
    go_wp2_with fail
    refine (off_any g ao n cap cs _ R).mono ?_
    rintro e w5 ⟨_, rfl, ⟨d, rfl, id⟩, R1, K1⟩
    replace K := K.trans K1
    replace B := B.kept K1 hne
    clear R K1
    have R := R1
    clear R1
    have o0 := B.c 0 rfl; have f0 := B.f 0 rfl; have o1 := B.c 1 rfl; have f1 := B.f 1 rfl; have o2 := B.c 2 rfl; have f2 := B.f 2 rfl; have o3 := B.c 3 rfl; have f3 := B.f 3 rfl; have ol := B.lt
    clear B
    go_wp2
    refine bodyPost_ret (v := .agg #[.int .i64 a, .int .i64 b, .int .i64 c, .int .i64 d]) (by simp [results, Tryz.results25, go_sem, o0, o1, o2, o3]) rfl ?_
    exact ⟨_, rfl, ⟨_, _, _, _, rfl, ia, ib, ic, id⟩, (((R.setN (by exact hg) _).setN (by exact hg) _).setN (by exact hg) _).setN (by exact hg) _, (((K.setN (by simp) (by simp; omega) _).setN (by simp) (by simp; omega) _).setN (by simp) (by simp; omega) _).setN (by simp) (by simp; omega) _⟩
  · have b0 : (v == 0) = false := beq_eq_false_iff_ne.2 hv0
    by_cases hv1 : v = 1
    · subst hv1
      go_wp2_with fail
      refine (near_pm g ao n cap cs _ R).mono ?_
      rintro e w2 ⟨_, rfl, ⟨x, rfl, x0, x1⟩, R1, K1⟩
      replace K := K.trans K1
      replace B := B.kept K1 hne
      clear R K1
      have R := R1
      clear R1
      go_wp2_with fail
      refine (near_pm g ao n cap cs _ R).mono ?_
      rintro e w3 ⟨_, rfl, ⟨y, rfl, y0, y1⟩, R1, K1⟩
      replace K := K.trans K1
      replace B := B.kept K1 hne
      clear R K1
      have R := R1
      clear R1
      go_wp2_with fail
      refine (near_pm g ao n cap cs _ R).mono ?_
      rintro e w4 ⟨_, rfl, ⟨u, rfl, u0, u1⟩, R1, K1⟩
      replace K := K.trans K1
      replace B := B.kept K1 hne
      clear R K1
      have R := R1
      clear R1
      go_wp2_with fail
      refine (near_pm g ao n cap cs _ R).mono ?_
      rintro e w5 ⟨_, rfl, ⟨z, rfl, z0, z1⟩, R1, K1⟩
      replace K := K.trans K1
      replace B := B.kept K1 hne
      clear R K1
      have R := R1
      clear R1
      obtain ⟨a, b, c, d, k, ia, ib, ic, id, CS⟩ := segOf_ex x y u z (by constructor <;> omega) (by constructor <;> omega) (by constructor <;> omega) (by constructor <;> omega)
      go_wp2_with fail
      refine (CS _).mono ?_
      rintro e w6 ⟨rfl, hB⟩
      replace R := R.step hB
      replace K := K.trans (Kept.of hB)
      replace B := B.step hB
      clear hB
      clear CS
      have X := Blk.new w6 [.int .i64 a, .int .i64 b, .int .i64 c, .int .i64 d] 27 rfl
      rw [show ([.int .i64 a, .int .i64 b, .int .i64 c, .int .i64 d] : List Value).toArray = #[.int .i64 a, .int .i64 b, .int .i64 c, .int .i64 d] from rfl] at X
      replace R := R.alloc (.cells #[.int .i64 a, .int .i64 b, .int .i64 c, .int .i64 d] 27)
      replace K := K.alloc (.cells #[.int .i64 a, .int .i64 b, .int .i64 c, .int .i64 d] 27)
      replace B := B.alloc (.cells #[.int .i64 a, .int .i64 b, .int .i64 c, .int .i64 d] 27)
      obtain ⟨c0, c1, c2, c3⟩ := X.cs4
      have xl := B.lt
      clear X
      have o0 := B.c 0 rfl; have f0 := B.f 0 rfl; have o1 := B.c 1 rfl; have f1 := B.f 1 rfl; have o2 := B.c 2 rfl; have f2 := B.f 2 rfl; have o3 := B.c 3 rfl; have f3 := B.f 3 rfl; have ol := B.lt
      clear B
      go_wp2
      refine bodyPost_ret (v := .agg #[.int .i64 a, .int .i64 b, .int .i64 c, .int .i64 d]) (by simp [results, Tryz.results25, go_sem, o0, o1, o2, o3]) rfl ?_
      exact ⟨_, rfl, ⟨_, _, _, _, rfl, ia, ib, ic, id⟩, (((R.setN (by exact hg) _).setN (by exact hg) _).setN (by exact hg) _).setN (by exact hg) _, (((K.setN (by simp) (by simp; omega) _).setN (by simp) (by simp; omega) _).setN (by simp) (by simp; omega) _).setN (by simp) (by simp; omega) _⟩
    · have b1 : (v == 1) = false := beq_eq_false_iff_ne.2 hv1
      by_cases hv2 : v = 2
      · subst hv2
        go_wp2_with fail
        refine (spot_any g ao n cap cs _ R).mono ?_
        rintro e w2 ⟨_, rfl, ⟨x, y, rfl, x0, x1, y0, y1⟩, R1, K1⟩
        replace K := K.trans K1
        replace B := B.kept K1 hne
        clear R K1
        have R := R1
        clear R1
        go_wp2_with fail
        refine (spot_any g ao n cap cs _ R).mono ?_
        rintro e w3 ⟨_, rfl, ⟨u, z, rfl, u0, u1, z0, z1⟩, R1, K1⟩
        replace K := K.trans K1
        replace B := B.kept K1 hne
        clear R K1
        have R := R1
        clear R1
        have o0 := B.c 0 rfl; have f0 := B.f 0 rfl; have o1 := B.c 1 rfl; have f1 := B.f 1 rfl; have o2 := B.c 2 rfl; have f2 := B.f 2 rfl; have o3 := B.c 3 rfl; have f3 := B.f 3 rfl; have ol := B.lt
        clear B
        go_wp2
        refine bodyPost_ret (v := .agg #[.int .i64 x, .int .i64 y, .int .i64 u, .int .i64 z]) (by simp [results, Tryz.results25, go_sem, o0, o1, o2, o3]) rfl ?_
        exact ⟨_, rfl, ⟨_, _, _, _, rfl, (by constructor <;> omega), (by constructor <;> omega), (by constructor <;> omega), (by constructor <;> omega)⟩, (((R.setN (by exact hg) _).setN (by exact hg) _).setN (by exact hg) _).setN (by exact hg) _, (((K.setN (by simp) (by simp; omega) _).setN (by simp) (by simp; omega) _).setN (by simp) (by simp; omega) _).setN (by simp) (by simp; omega) _⟩
      · have b2 : (v == 2) = false := beq_eq_false_iff_ne.2 hv2
        go_wp2_with fail
        refine (spot_any g ao n cap cs _ R).mono ?_
        rintro e w2 ⟨_, rfl, ⟨x, y, rfl, x0, x1, y0, y1⟩, R1, K1⟩
        replace K := K.trans K1
        replace B := B.kept K1 hne
        clear R K1
        have R := R1
        clear R1
        have gl2 := R.lt
        have hn2 : w2.heap.size ≠ g := by omega
        have X2 := Blk.new w2 [.int .i64 x, .int .i64 y] 25 rfl
        rw [show ([.int .i64 x, .int .i64 y] : List Value).toArray = #[.int .i64 x, .int .i64 y] from rfl] at X2
        replace R := R.alloc (.cells #[.int .i64 x, .int .i64 y] 25)
        replace K := K.alloc (.cells #[.int .i64 x, .int .i64 y] 25)
        replace B := B.alloc (.cells #[.int .i64 x, .int .i64 y] 25)
        go_wp2_with fail
        refine (spot_any g ao n cap cs _ R).mono ?_
        rintro e w3 ⟨_, rfl, ⟨u, z, rfl, u0, u1, z0, z1⟩, R1, K1⟩
        replace K := K.trans K1
        replace B := B.kept K1 hne
        replace X2 := X2.kept K1 hn2
        clear R K1
        have R := R1
        clear R1
        have gl3 := R.lt
        have x2l := X2.lt
        have hwl := B.lt
        have Y2 := X2
        have YB := B
        have YR := R
        have YK := K
        have X3 := Blk.new w3 [.int .i64 u, .int .i64 z] 25 rfl
        rw [show ([.int .i64 u, .int .i64 z] : List Value).toArray = #[.int .i64 u, .int .i64 z] from rfl] at X3
        replace R := R.alloc (.cells #[.int .i64 u, .int .i64 z] 25)
        replace K := K.alloc (.cells #[.int .i64 u, .int .i64 z] 25)
        replace B := B.alloc (.cells #[.int .i64 u, .int .i64 z] 25)
        replace X2 := X2.alloc (.cells #[.int .i64 u, .int .i64 z] 25)
        have E := eqSpo x y u z
        have n32 : ¬ (w3.heap.size = w2.heap.size) := by omega
        have n23 : ¬ (w2.heap.size = w3.heap.size) := by omega
        by_cases he : x = u ∧ y = z
        · rw [decide_eq_true he.1, decide_eq_true he.2] at E
          obtain ⟨e1, e2⟩ := he
          have wr : IntKind.i64.wrap (u + 1) = u + 1 := by rw [IntKind.wrap_i64]; omega
          obtain ⟨p0, p1⟩ := X2.cs2
          obtain ⟨r0, rf0, r1, rf1⟩ := X3.cf2
          have x3l := X3.lt
          obtain ⟨a, b, c, d, k, ia, ib, ic, id, CS⟩ := segOf_ex x y (u + 1) z (by constructor <;> omega) (by constructor <;> omega) (by constructor <;> omega) (by constructor <;> omega)
          clear e1 e2
          go_upto_region 13 with fail
          clear p0 p1 r0 rf0 r1 rf1 X2 X3 E B R K x3l
          have X2 := Y2.alloc (.cells #[.int .i64 (u + 1), .int .i64 z] 25)
          have B := YB.alloc (.cells #[.int .i64 (u + 1), .int .i64 z] 25)
          have R := YR.alloc (.cells #[.int .i64 (u + 1), .int .i64 z] 25)
          have K := YK.alloc (.cells #[.int .i64 (u + 1), .int .i64 z] 25)
          have X3 := Blk.new w3 [.int .i64 (u + 1), .int .i64 z] 25 rfl
          rw [show ([.int .i64 (u + 1), .int .i64 z] : List Value).toArray = #[.int .i64 (u + 1), .int .i64 z] from rfl] at X3
          clear Y2 YB YR YK
          obtain ⟨p0, p1⟩ := X2.cs2
          obtain ⟨r0, r1⟩ := X3.cs2
          go_wp2_with fail
          clear p0 p1 r0 r1 X2 X3
          generalize (w3.alloc (.cells #[.int .i64 (u + 1), .int .i64 z] 25)) = W3 at *
          refine (CS _).mono ?_
          rintro e w4 ⟨rfl, hB⟩
          replace R := R.step hB
          replace K := K.trans (Kept.of hB)
          replace B := B.step hB
          clear hB CS
          have X := Blk.new w4 [.int .i64 a, .int .i64 b, .int .i64 c, .int .i64 d] 27 rfl
          rw [show ([.int .i64 a, .int .i64 b, .int .i64 c, .int .i64 d] : List Value).toArray = #[.int .i64 a, .int .i64 b, .int .i64 c, .int .i64 d] from rfl] at X
          replace R := R.alloc (.cells #[.int .i64 a, .int .i64 b, .int .i64 c, .int .i64 d] 27)
          replace K := K.alloc (.cells #[.int .i64 a, .int .i64 b, .int .i64 c, .int .i64 d] 27)
          replace B := B.alloc (.cells #[.int .i64 a, .int .i64 b, .int .i64 c, .int .i64 d] 27)
          obtain ⟨c0, c1, c2, c3⟩ := X.cs4
          have xl := B.lt
          clear X
          have o0 := B.c 0 rfl; have f0 := B.f 0 rfl; have o1 := B.c 1 rfl; have f1 := B.f 1 rfl; have o2 := B.c 2 rfl; have f2 := B.f 2 rfl; have o3 := B.c 3 rfl; have f3 := B.f 3 rfl; have ol := B.lt
          clear B
          go_wp2
          refine bodyPost_ret (v := .agg #[.int .i64 a, .int .i64 b, .int .i64 c, .int .i64 d]) (by simp [results, Tryz.results25, go_sem, o0, o1, o2, o3]) rfl ?_
          exact ⟨_, rfl, ⟨_, _, _, _, rfl, ia, ib, ic, id⟩, (((R.setN (by exact hg) _).setN (by exact hg) _).setN (by exact hg) _).setN (by exact hg) _, (((K.setN (by simp) (by simp; omega) _).setN (by simp) (by simp; omega) _).setN (by simp) (by simp; omega) _).setN (by simp) (by simp; omega) _⟩
        · have E' : ∀ w, (Op.equalIn 10000 25 (.agg #[.int .i64 x, .int .i64 y]) (.agg #[.int .i64 u, .int .i64 z])).run Tryz.prog w = .ok false w := by
            intro w
            rw [E w]
            congr 1
            simp only [Bool.and_eq_false_iff, decide_eq_false_iff_not]
            omega
          obtain ⟨p0, p1⟩ := X2.cs2
          obtain ⟨r0, r1⟩ := X3.cs2
          obtain ⟨a, b, c, d, k, ia, ib, ic, id, CS⟩ := segOf_ex x y u z (by constructor <;> omega) (by constructor <;> omega) (by constructor <;> omega) (by constructor <;> omega)
          clear he E Y2 YB YR YK
          go_wp2_with fail
          clear p0 p1 r0 r1 X2 X3 E'
          generalize (w3.alloc (.cells #[.int .i64 u, .int .i64 z] 25)) = W3 at *
          refine (CS _).mono ?_
          rintro e w4 ⟨rfl, hB⟩
          replace R := R.step hB
          replace K := K.trans (Kept.of hB)
          replace B := B.step hB
          clear hB CS
          have X := Blk.new w4 [.int .i64 a, .int .i64 b, .int .i64 c, .int .i64 d] 27 rfl
          rw [show ([.int .i64 a, .int .i64 b, .int .i64 c, .int .i64 d] : List Value).toArray = #[.int .i64 a, .int .i64 b, .int .i64 c, .int .i64 d] from rfl] at X
          replace R := R.alloc (.cells #[.int .i64 a, .int .i64 b, .int .i64 c, .int .i64 d] 27)
          replace K := K.alloc (.cells #[.int .i64 a, .int .i64 b, .int .i64 c, .int .i64 d] 27)
          replace B := B.alloc (.cells #[.int .i64 a, .int .i64 b, .int .i64 c, .int .i64 d] 27)
          obtain ⟨c0, c1, c2, c3⟩ := X.cs4
          have xl := B.lt
          clear X
          have o0 := B.c 0 rfl; have f0 := B.f 0 rfl; have o1 := B.c 1 rfl; have f1 := B.f 1 rfl; have o2 := B.c 2 rfl; have f2 := B.f 2 rfl; have o3 := B.c 3 rfl; have f3 := B.f 3 rfl; have ol := B.lt
          clear B
          go_wp2
          refine bodyPost_ret (v := .agg #[.int .i64 a, .int .i64 b, .int .i64 c, .int .i64 d]) (by simp [results, Tryz.results25, go_sem, o0, o1, o2, o3]) rfl ?_
          exact ⟨_, rfl, ⟨_, _, _, _, rfl, ia, ib, ic, id⟩, (((R.setN (by exact hg) _).setN (by exact hg) _).setN (by exact hg) _).setN (by exact hg) _, (((K.setN (by simp) (by simp; omega) _).setN (by simp) (by simp; omega) _).setN (by simp) (by simp; omega) _).setN (by simp) (by simp; omega) _⟩
end Go.Proofs.YtniccikkhddofaaGreat

/- A region that draws its order, by a condition that every operation keeps, whichever comes up: no order is walked. -/
namespace Go.Proofs.YtniccikkhddofaaGreat
variable {P : Program} {ops : Array Oper} {Q : Exit → Act → World → Prop} {md : Region.Mode}
def open_ (l : Array Bool) : Nat := l.toList.countP (fun b => !b)
theorem open_set {l : Array Bool} {i : Nat} (h : l.getD i true = false) : open_ (l.setIfInBounds i true) + 1 = open_ l := by
  obtain ⟨xs⟩ := l
  have hi : i < xs.length := by
    rcases Nat.lt_or_ge i xs.length with h' | h'
    · exact h'
    · simp [Array.getD, Nat.not_lt.2 h'] at h
  have hv : xs[i] = false := by simpa [Array.getD, hi] using h
  have hp : 0 < xs.countP (fun b => !b) := List.countP_pos_iff.2 ⟨xs[i], List.getElem_mem hi, by simp [hv]⟩
  simp only [open_, List.setIfInBounds_toArray, List.countP_set hi, hv]
  simp
  omega
theorem wpAny_inv (J : Array Bool → Act → World → Prop) (hs : ∀ l a w i o, J l a w → l.getD i true = false → ops[i]? = some o → (∀ e ∈ o.after, Region.binds md e = true → l.getD e.on false = true) → wpOp P ops Q i (J (l.setIfInBounds i true)) a w)
    (hd : ∀ l a w, J l a w → Region.ready md ops l = [] → Q .normal a w) : ∀ (fuel : Nat) (l : Array Bool) (a : Act) (w : World), open_ l ≤ fuel → J l a w → wpAny P md ops Q fuel l a w := by
  intro fuel
  induction fuel with
  | zero =>
    intro l a w hf hJ
    have hr : Region.ready md ops l = [] := by
      rw [List.eq_nil_iff_forall_not_mem]
      intro i hi
      have := open_set (mem_ready.1 hi).1
      omega
    exact ⟨hr, hd l a w hJ hr⟩
  | succ fuel ih =>
    intro l a w hf hJ
    refine ⟨fun hr => hd l a w hJ hr, fun i hi => ?_⟩
    obtain ⟨h0, o, ho, hall⟩ := mem_ready.1 hi
    exact wpOp_mono (fun a' w' h' => ih _ a' w' (by have := open_set h0; omega) h') (hs l a w i o hJ h0 ho hall)
theorem wp_region_inv {id : Nat} {a : Act} {w : World} (hm : P.follows .mixedOrders = true) (J : Array Bool → Act → World → Prop)
    (h0 : J (Array.replicate ops.size false) a { w with drawn := w.drawn + 1 })
    (hs : ∀ l a w i o, J l a w → l.getD i true = false → ops[i]? = some o → (∀ e ∈ o.after, Region.binds .any e = true → l.getD e.on false = true) → wpOp P ops Q i (J (l.setIfInBounds i true)) a w)
    (hd : ∀ l a w, J l a w → Region.ready .any ops l = [] → Q .normal a w) : (Code.region id ops true).wp P Q a w :=
  wp_region_any hm (wpAny_inv J hs hd _ _ _ _ (by
    unfold open_
    refine Nat.le_trans List.countP_le_length ?_
    simp) h0)
/-- The operations of a list, each of which waits for none but those ahead of it. -/
def waits (md : Region.Mode) (ops : Array Oper) : List Nat → List Nat → Bool
  | _, [] => true
  | acc, i :: r => ((ops[i]?).map (fun o => o.after.all (fun e => !Region.binds md e || acc.contains e.on))).getD false && waits md ops (i :: acc) r
/-- Where none is ready, all of such a list have come up. -/
theorem listed_of {l : Array Bool} (hr : Region.ready md ops l = []) : ∀ (r acc : List Nat), (∀ k ∈ acc, l.getD k false = true) → waits md ops acc r = true → (∀ k ∈ r, k < l.size) → ∀ k ∈ r, l.getD k false = true
  | [], _, _, _, _ => fun k hk => by simp at hk
  | i :: r, acc, ha, hw, hz => by
    simp only [waits, Bool.and_eq_true] at hw
    obtain ⟨hw1, hw2⟩ := hw
    have hi : l.getD i false = true := by
      cases ho : ops[i]? with
      | none => rw [ho] at hw1; simp at hw1
      | some o =>
        rw [ho] at hw1
        have hall : ∀ e ∈ o.after, Region.binds md e = true → l.getD e.on false = true := fun e he hb => by
          have h2 : o.after.all (fun e => !Region.binds md e || acc.contains e.on) = true := by simpa using hw1
          rw [Array.all_eq_true'] at h2
          have h3 := h2 e he
          rw [hb] at h3
          exact ha _ (by simpa using h3)
        have hz' := hz i (by simp)
        by_cases hc : l.getD i true = false
        · have : i ∈ Region.ready md ops l := mem_ready.2 ⟨hc, o, ho, hall⟩
          rw [hr] at this
          simp at this
        · simpa [Array.getD, hz'] using hc
    intro k hk
    rcases List.mem_cons.1 hk with rfl | hk
    · exact hi
    · exact listed_of hr r (i :: acc) (fun k hk => by
        rcases List.mem_cons.1 hk with rfl | hk
        · exact hi
        · exact ha k hk) hw2 (fun k hk => hz k (by simp [hk])) k hk
/-- One operation that is not guarded: what it does when it is carried out. -/
theorem wpOp_of {i : Nat} {o : Oper} {a : Act} {w : World} {K : Act → World → Prop} (ho : ops[i]? = some o) (hg : o.guard = none) (h : o.wp P a w K Q) : wpOp P ops Q i K a w := by
  unfold wpOp
  simp only [ho]
  have hw : Region.wanted o (yielded ops a.tmps) = true := by unfold Region.wanted; rw [hg]
  rw [if_pos hw]
  exact .inl h
/-- A frame that differs from another one at the told slots alone is that one with these slots put. -/
theorem tmps_fold : ∀ (D : List Nat) (t s : Array Value), t.size = s.size → (∀ d, d ∉ D → t[d]? = s[d]?) → t = D.foldl (fun u d => u.setIfInBounds d (t.getD d undef)) s
  | [], t, s, _, h => Array.ext_getElem? (fun d => h d (by simp))
  | d :: D, t, s, hz, h => by
    rw [List.foldl_cons]
    refine tmps_fold D t _ (by simpa using hz) (fun e he => ?_)
    by_cases hed : e = d
    · subst hed
      rcases Nat.lt_or_ge e t.size with h' | h'
      · simp [Array.getD, h', ← hz]
      · simp [← hz, h']
    · rw [Array.getElem?_setIfInBounds_ne (fun hh => hed hh.symm)]
      exact h e (by simp [hed, he])
theorem put_getD_ne {a : Act} {d e : Nat} {v : Value} (h : d ≠ e) : (a.put (some d) v).tmps.getD e undef = a.tmps.getD e undef := by
  simp [Act.put, Array.getD_eq_getD_getElem?, Array.getElem?_setIfInBounds_ne h]
theorem put_getD_same {a : Act} {d : Nat} {v : Value} (h : d < a.tmps.size) : (a.put (some d) v).tmps.getD d undef = v := by
  simp [Act.put, Array.getD_eq_getD_getElem?, h]
end Go.Proofs.YtniccikkhddofaaGreat

/- Operations that are guarded, in a region that is taken by a condition. -/
namespace Go.Proofs.YtniccikkhddofaaGreat
variable {P : Program} {ops : Array Oper} {Q : Exit → Act → World → Prop}
end Go.Proofs.YtniccikkhddofaaGreat

/- A region that draws its order, by what each slot holds once its operation has come up: the general form. -/
namespace Go.Proofs.YtniccikkhddofaaGreat
open Go.RowKit
variable {P : Program} {ops : Array Oper}
/-- No slot is written by two operations. -/
def distS : List (Option Nat) → Bool
  | [] => true
  | none :: r => distS r
  | some d :: r => !(r.contains (some d)) && distS r
theorem distS_inj : ∀ (S : List (Option Nat)) (i j d : Nat), distS S = true → S[i]? = some (some d) → S[j]? = some (some d) → i = j
  | [], i, _, _, _, h, _ => by simp at h
  | o :: r, i, j, d, hd, hi, hj => by
    have hr : distS r = true := by
      cases o with
      | none => exact hd
      | some d' => simp only [distS, Bool.and_eq_true] at hd; exact hd.2
    have hno : ∀ k, o = some d → r[k]? = some (some d) → False := fun k ho hk => by
      subst ho
      simp only [distS, Bool.and_eq_true, Bool.not_eq_true'] at hd
      have hm : some d ∈ r := List.mem_of_getElem? hk
      rw [← List.contains_iff_mem, hd.1] at hm
      cases hm
    match i, j with
    | 0, 0 => rfl
    | 0, j + 1 => exact (hno j (by simpa using hi) (by simpa using hj)).elim
    | i + 1, 0 => exact (hno i (by simpa using hj) (by simpa using hi)).elim
    | i + 1, j + 1 => exact congrArg (· + 1) (distS_inj r i j d hr (by simpa using hi) (by simpa using hj))
/-- What every operation keeps. -/
def InvQ (B : Nat) (S : List (Option Nat)) (V : Nat → Value → World → Prop) (w0 : World) (a0 : Act) (l : Array Bool) (a : Act) (W : World) : Prop :=
  l.size = S.length ∧ a.tmps.size = a0.tmps.size ∧ a.defers = a0.defers ∧ (∀ e, some e ∉ S → a.tmps[e]? = a0.tmps[e]?) ∧ Below B w0 W ∧ (∀ j d, l.getD j false = true → S[j]? = some (some d) → V j (a.tmps.getD d undef) W) ∧ (∀ j, l.getD j false = true → S[j]? = some none → V j undef W)
theorem getD_set_q {l : Array Bool} {i j : Nat} (h : (l.setIfInBounds i true).getD j false = true) (hne : j ≠ i) : l.getD j false = true := by
  rw [getD_set_ne false (Ne.symm hne)] at h
  exact h
theorem InvQ.put {B : Nat} {S : List (Option Nat)} {V : Nat → Value → World → Prop} {w0 : World} {a0 : Act} {l : Array Bool} {a : Act} {W W' : World} (h : InvQ B S V w0 a0 l a W) (hS : distS S = true) (i d : Nat) (hi : S[i]? = some (some d)) (hlt : d < a0.tmps.size)
    (hW : Below B w0 W') (hT : ∀ j v, V j v W → V j v W') (v : Value) (hv : V i v W') : InvQ B S V w0 a0 (l.setIfInBounds i true) (a.put (some d) v) W' := by
  obtain ⟨h1, h2, h3, h4, h5, h6, h7⟩ := h
  refine ⟨by simpa using h1, by simpa [Act.put] using h2, h3, fun e he => ?_, hW, fun j d' hj hd' => ?_, fun j hj hn => ?_⟩
  · have hne : d ≠ e := fun hh => he (hh ▸ List.mem_of_getElem? hi)
    simp only [Act.put]
    rw [Array.getElem?_setIfInBounds_ne hne]
    exact h4 e he
  · by_cases hji : j = i
    · subst hji
      rw [hi] at hd'
      cases hd'
      rw [put_getD_same (by omega)]
      exact hv
    · have hne : d ≠ d' := fun hh => hji (distS_inj S j i d hS (hh ▸ hd') hi)
      rw [put_getD_ne hne]
      exact hT _ _ (h6 j d' (getD_set_q hj hji) hd')
  · have hji : j ≠ i := fun hh => by subst hh; rw [hi] at hn; cases hn
    exact hT _ _ (h7 j (getD_set_q hj hji) hn)
theorem InvQ.world {B : Nat} {S : List (Option Nat)} {V : Nat → Value → World → Prop} {w0 : World} {a0 : Act} {l : Array Bool} {a : Act} {W W' : World} (h : InvQ B S V w0 a0 l a W) (i : Nat) (hi : S[i]? = some none)
    (hW : Below B w0 W') (hT : ∀ j v, V j v W → V j v W') (hv : V i undef W') : InvQ B S V w0 a0 (l.setIfInBounds i true) a W' := by
  obtain ⟨h1, h2, h3, h4, h5, h6, h7⟩ := h
  refine ⟨by simpa using h1, h2, h3, h4, hW, fun j d hj hd => ?_, fun j hj hn => ?_⟩
  · have hji : j ≠ i := fun hh => by subst hh; rw [hi] at hd; cases hd
    exact hT _ _ (h6 j d (getD_set_q hj hji) hd)
  · by_cases hji : j = i
    · subst hji; exact hv
    · exact hT _ _ (h7 j (getD_set_q hj hji) hn)
theorem wp_region_q {Q : Exit → Act → World → Prop} {id : Nat} {a0 : Act} {w0 : World} (hm : P.follows .mixedOrders = true) (B : Nat) (S : List (Option Nat)) (V : Nat → Value → World → Prop) (hSz : ops.size = S.length)
    (hs : ∀ (Q : Exit → Act → World → Prop) l a W i o, InvQ B S V w0 a0 l a W → l.getD i true = false → ops[i]? = some o → (∀ e ∈ o.after, Region.binds .any e = true → l.getD e.on false = true) → wpOp P ops Q i (InvQ B S V w0 a0 (l.setIfInBounds i true)) a W)
    (hd : ∀ l a W, InvQ B S V w0 a0 l a W → Region.ready .any ops l = [] → Q .normal a W) : (Code.region id ops true).wp P Q a0 w0 := by
  refine wp_region_inv hm (InvQ B S V w0 a0) ⟨by simpa using hSz, rfl, rfl, fun _ _ => rfl, (Below.refl _ w0).drew, fun j d hj => ?_, fun j hj => ?_⟩ (hs Q) hd
  all_goals
    exfalso
    rw [Array.getD_eq_getD_getElem?, Array.getElem?_replicate] at hj
    split at hj <;> simp at hj
/-- A block of so many cells. -/
def BlkN (W : World) (g n : Nat) : Prop := ∃ vs : List Value, vs.length = n ∧ Blk W g vs
theorem BlkN.step {W W' : World} {g n : Nat} (h : BlkN W g n) (hB : Below W.heap.size W W') : BlkN W' g n := by
  obtain ⟨vs, h1, h2⟩ := h
  exact ⟨vs, h1, h2.step hB⟩
theorem Blk.setA {W : World} {g : Nat} {vs : List Value} (h : Blk W g vs) (j : Nat) (u : Value) : Blk (W.setCell ⟨g, j, none⟩ u) g (vs.set j u) := by
  rcases Nat.lt_or_ge j vs.length with hj | hj
  · exact h.setI j hj u
  · refine ⟨by simpa [World.setCell] using h.1, fun i v hi => ?_⟩
    rw [List.set_eq_of_length_le hj] at hi
    have hne : i ≠ j := fun e => by
      subst e
      rw [List.getElem?_eq_none hj] at hi
      cases hi
    exact ⟨(World.cell?_setCell_other _ _ _ _ (by simp)).trans (h.c i hi), by simp [go_sem, h.f i hi]⟩
theorem BlkN.set {W : World} {g n : Nat} (h : BlkN W g n) (g' j : Nat) (u : Value) : BlkN (W.setCell ⟨g', j, none⟩ u) g n := by
  obtain ⟨vs, h1, h2⟩ := h
  by_cases hg : g = g'
  · subst hg
    exact ⟨vs.set j u, by simpa using h1, h2.setA j u⟩
  · exact ⟨vs, h1, h2.setO (p := ⟨g', j, none⟩) hg u⟩
end Go.Proofs.YtniccikkhddofaaGreat

/- The region in which the middle of a drawn segment is taken. -/
namespace Go.Proofs.YtniccikkhddofaaGreat
open Go.RowKit
def VsdM (A5 : Nat) (a b c d x y z : Int) (f : Bool) (B : Nat) : Nat → Value → World → Prop
  | 0, v, _ => v = .pointer (some ⟨A5, 0, none⟩)
  | 1, v, _ => v = .agg #[.int .i64 a, .int .i64 b]
  | 2, v, _ => v = .agg #[.int .u64 (ww3 a), .int .u64 (ww2 a), .int .u64 (ww1 a), .int .u64 (ww0 a), .int .u64 (ww3 b), .int .u64 (ww2 b), .int .u64 (ww1 b), .int .u64 (ww0 b), .int .u64 (ww3 1), .int .u64 (ww2 1), .int .u64 (ww1 1), .int .u64 (ww0 1)]
  | 3, v, _ => v = .pointer (some ⟨A5, 2, none⟩)
  | 4, v, _ => v = .agg #[.int .i64 c, .int .i64 d]
  | 5, v, _ => v = .agg #[.int .u64 (ww3 c), .int .u64 (ww2 c), .int .u64 (ww1 c), .int .u64 (ww0 c), .int .u64 (ww3 d), .int .u64 (ww2 d), .int .u64 (ww1 d), .int .u64 (ww0 d), .int .u64 (ww3 1), .int .u64 (ww2 1), .int .u64 (ww1 1), .int .u64 (ww0 1)]
  | 6, v, _ => v = .tuple #[.agg #[.int .u64 (ww3 x), .int .u64 (ww2 x), .int .u64 (ww1 x), .int .u64 (ww0 x), .int .u64 (ww3 y), .int .u64 (ww2 y), .int .u64 (ww1 y), .int .u64 (ww0 y), .int .u64 (ww3 z), .int .u64 (ww2 z), .int .u64 (ww1 z), .int .u64 (ww0 z)], .bool f]
  | 7, v, _ => v = .tuple #[.agg #[.int .u64 (ww3 x), .int .u64 (ww2 x), .int .u64 (ww1 x), .int .u64 (ww0 x), .int .u64 (ww3 y), .int .u64 (ww2 y), .int .u64 (ww1 y), .int .u64 (ww0 y), .int .u64 (ww3 z), .int .u64 (ww2 z), .int .u64 (ww1 z), .int .u64 (ww0 z)], .bool f]
  | 8, v, _ => v = .agg #[.int .u64 (ww3 x), .int .u64 (ww2 x), .int .u64 (ww1 x), .int .u64 (ww0 x), .int .u64 (ww3 y), .int .u64 (ww2 y), .int .u64 (ww1 y), .int .u64 (ww0 y), .int .u64 (ww3 z), .int .u64 (ww2 z), .int .u64 (ww1 z), .int .u64 (ww0 z)]
  | 9, v, _ => v = .bool f
  | 10, v, W => ∃ gz, v = .pointer (some ⟨gz, 0, none⟩) ∧ B ≤ gz ∧ ∃ p q r : Int, told p = true ∧ told q = true ∧ told r = true ∧ Blk W gz [.int .u64 (ww3 p), .int .u64 (ww2 p), .int .u64 (ww1 p), .int .u64 (ww0 p), .int .u64 (ww3 q), .int .u64 (ww2 q), .int .u64 (ww1 q), .int .u64 (ww0 q), .int .u64 (ww3 r), .int .u64 (ww2 r), .int .u64 (ww1 r), .int .u64 (ww0 r)]
  | 12, v, _ => v = .bool f
  | _, _, _ => True
theorem VsdM.mono {A5 : Nat} {a b c d x y z : Int} {f : Bool} {B j : Nat} {v : Value} {W W2 : World} (hB : Below W.heap.size W W2) (h : VsdM A5 a b c d x y z f B j v W) : VsdM A5 a b c d x y z f B j v W2 := by
  unfold VsdM at *
  split <;> simp only at h <;> first | exact h | (obtain ⟨gz, h1, h2, p, q, r, t1, t2, t3, h3⟩ := h; exact ⟨gz, h1, h2, p, q, r, t1, t2, t3, h3.step hB⟩) | trivial
theorem VsdM.put {A5 : Nat} {a b c d x y z : Int} {f : Bool} {B j gz : Nat} {v : Value} {W W2 : World} (hne : ∀ g vs, g ≠ gz → Blk W g vs → Blk W2 g vs) (hz : ∃ p q r : Int, told p = true ∧ told q = true ∧ told r = true ∧ Blk W2 gz [.int .u64 (ww3 p), .int .u64 (ww2 p), .int .u64 (ww1 p), .int .u64 (ww0 p), .int .u64 (ww3 q), .int .u64 (ww2 q), .int .u64 (ww1 q), .int .u64 (ww0 q), .int .u64 (ww3 r), .int .u64 (ww2 r), .int .u64 (ww1 r), .int .u64 (ww0 r)]) (h : VsdM A5 a b c d x y z f B j v W) : VsdM A5 a b c d x y z f B j v W2 := by
  unfold VsdM at *
  split <;> simp only at h <;> first | exact h | trivial | skip
  obtain ⟨g', h1, h2, p, q, r, t1, t2, t3, h3⟩ := h
  by_cases e : g' = gz
  · subst e
    exact ⟨_, h1, h2, hz⟩
  · exact ⟨g', h1, h2, p, q, r, t1, t2, t3, hne g' _ e h3⟩
set_option maxRecDepth 100000 in
set_option maxHeartbeats 4000000 in
theorem sdM {Q : Exit → Act → World → Prop} {A5 : Nat} {a b c d x y z : Int} {f : Bool}  {w0 : World} {a0 : Act} {idq : Nat} {t0 t1 t2 t3 t4 t5 t6 t7 t8 t9 t10 t11 t12 : TypeId} {q0 q1 q2 q3 q4 q5 q6 q7 q8 q9 q10 q11 q12 : String}
    (hP1 : ∀ w, Calls Tryz.prog 28 #[.agg #[.int .i64 a, .int .i64 b]] w (VP (.agg #[.int .u64 (ww3 a), .int .u64 (ww2 a), .int .u64 (ww1 a), .int .u64 (ww0 a), .int .u64 (ww3 b), .int .u64 (ww2 b), .int .u64 (ww1 b), .int .u64 (ww0 b), .int .u64 (ww3 1), .int .u64 (ww2 1), .int .u64 (ww1 1), .int .u64 (ww0 1)]) w)) (hP2 : ∀ w, Calls Tryz.prog 28 #[.agg #[.int .i64 c, .int .i64 d]] w (VP (.agg #[.int .u64 (ww3 c), .int .u64 (ww2 c), .int .u64 (ww1 c), .int .u64 (ww0 c), .int .u64 (ww3 d), .int .u64 (ww2 d), .int .u64 (ww1 d), .int .u64 (ww0 d), .int .u64 (ww3 1), .int .u64 (ww2 1), .int .u64 (ww1 1), .int .u64 (ww0 1)]) w)) (hM : ∀ w, Calls Tryz.prog 27 #[.agg #[.int .u64 (ww3 a), .int .u64 (ww2 a), .int .u64 (ww1 a), .int .u64 (ww0 a), .int .u64 (ww3 b), .int .u64 (ww2 b), .int .u64 (ww1 b), .int .u64 (ww0 b), .int .u64 (ww3 1), .int .u64 (ww2 1), .int .u64 (ww1 1), .int .u64 (ww0 1)], .agg #[.int .u64 (ww3 c), .int .u64 (ww2 c), .int .u64 (ww1 c), .int .u64 (ww0 c), .int .u64 (ww3 d), .int .u64 (ww2 d), .int .u64 (ww1 d), .int .u64 (ww0 d), .int .u64 (ww3 1), .int .u64 (ww2 1), .int .u64 (ww1 1), .int .u64 (ww0 1)]] w (VP (.tuple #[.agg #[.int .u64 (ww3 x), .int .u64 (ww2 x), .int .u64 (ww1 x), .int .u64 (ww0 x), .int .u64 (ww3 y), .int .u64 (ww2 y), .int .u64 (ww1 y), .int .u64 (ww0 y), .int .u64 (ww3 z), .int .u64 (ww2 z), .int .u64 (ww1 z), .int .u64 (ww0 z)], .bool f]) w)) (tx : told x = true) (ty : told y = true) (tz : told z = true) (h5 : a0.tmps[5]? = some (.pointer (some ⟨A5, 0, none⟩))) (k0 : w0.cell? ⟨A5, 0, none⟩ = some (.int .i64 a)) (l0 : (⟨A5, 0, none⟩ : Addr).block < w0.heap.size) (k1 : w0.cell? ⟨A5, 1, none⟩ = some (.int .i64 b)) (l1 : (⟨A5, 1, none⟩ : Addr).block < w0.heap.size) (k2 : w0.cell? ⟨A5, 2, none⟩ = some (.int .i64 c)) (l2 : (⟨A5, 2, none⟩ : Addr).block < w0.heap.size) (k3 : w0.cell? ⟨A5, 3, none⟩ = some (.int .i64 d)) (l3 : (⟨A5, 3, none⟩ : Addr).block < w0.heap.size) (hz : a0.tmps.size = 29)
    (hQ : ∀ aq W, aq.tmps.size = a0.tmps.size → aq.defers = a0.defers → (∀ e, e ∉ ([15, 16, 17, 18, 19, 20, 21, 14, 22, 23, 6, 7] : List Nat) → aq.tmps[e]? = a0.tmps[e]?) → VsdM A5 a b c d x y z f w0.heap.size 10 (aq.tmps.getD 6 undef) W → Below w0.heap.size w0 W → Q .normal aq W) :
    (Code.region idq #[{ dst := some 15, op := Op.fieldAddr 27 (Operand.tmp 5) 0, type := t0, pos := q0, after := #[], guard := none },
    { dst := some 16, op := Op.load 25 (Operand.tmp 15), type := t1, pos := q1, after := #[{ on := 0, ground := Ground.data }], guard := none },
    { dst := some 17, op := Op.call { callee := Callee.value (Operand.func 28), args := #[Operand.tmp 16], argTypes := #[25] }, type := t2, pos := q2, after := #[{ on := 1, ground := Ground.data }], guard := none },
    { dst := some 18, op := Op.fieldAddr 27 (Operand.tmp 5) 1, type := t3, pos := q3, after := #[], guard := none },
    { dst := some 19, op := Op.load 25 (Operand.tmp 18), type := t4, pos := q4, after := #[{ on := 3, ground := Ground.data }], guard := none },
    { dst := some 20, op := Op.call { callee := Callee.value (Operand.func 28), args := #[Operand.tmp 19], argTypes := #[25] }, type := t5, pos := q5, after := #[{ on := 4, ground := Ground.data }, { on := 2, ground := Ground.chain }], guard := none },
    { dst := some 21, op := Op.call { callee := Callee.value (Operand.func 27), args := #[Operand.tmp 17, Operand.tmp 20], argTypes := #[32, 32] }, type := t6, pos := q6, after := #[{ on := 2, ground := Ground.data }, { on := 5, ground := Ground.data }, { on := 5, ground := Ground.chain }], guard := none },
    { dst := some 14, op := Op.move (Operand.tmp 21), type := t7, pos := q7, after := #[{ on := 6, ground := Ground.data }], guard := none },
    { dst := some 22, op := Op.extract (Operand.tmp 14) 0, type := t8, pos := q8, after := #[{ on := 7, ground := Ground.data }], guard := none },
    { dst := some 23, op := Op.extract (Operand.tmp 14) 1, type := t9, pos := q9, after := #[{ on := 7, ground := Ground.data }, { on := 11, ground := Ground.gcOnly Departure.lateStores }], guard := none },
    { dst := some 6, op := Op.alloc 32, type := t10, pos := q10, after := #[], guard := none },
    { dst := none, op := Op.store 32 (Operand.tmp 6) (Operand.tmp 22), type := t11, pos := q11, after := #[{ on := 10, ground := Ground.data }, { on := 8, ground := Ground.data }, { on := 6, ground := Ground.chain }, { on := 0, ground := Ground.phase }, { on := 1, ground := Ground.phase }, { on := 2, ground := Ground.phase }, { on := 3, ground := Ground.phase }, { on := 4, ground := Ground.phase }, { on := 5, ground := Ground.phase }, { on := 6, ground := Ground.phase }, { on := 7, ground := Ground.phase }, { on := 8, ground := Ground.phase }, { on := 9, ground := Ground.textOnly Departure.lateStores }, { on := 10, ground := Ground.phase }], guard := none },
    { dst := some 7, op := Op.assign (Operand.tmp 23), type := t12, pos := q12, after := #[{ on := 9, ground := Ground.data }, { on := 11, ground := Ground.chain }, { on := 0, ground := Ground.phase }, { on := 1, ground := Ground.phase }, { on := 2, ground := Ground.phase }, { on := 3, ground := Ground.phase }, { on := 4, ground := Ground.phase }, { on := 5, ground := Ground.phase }, { on := 6, ground := Ground.phase }, { on := 7, ground := Ground.phase }, { on := 8, ground := Ground.phase }, { on := 9, ground := Ground.phase }, { on := 10, ground := Ground.phase }, { on := 11, ground := Ground.phase }], guard := none }] true).wp Tryz.prog Q a0 w0 := by
  have hS : distS [some 15, some 16, some 17, some 18, some 19, some 20, some 21, some 14, some 22, some 23, some 6, none, some 7] = true := rfl
  refine wp_region_q (by kernel_rfl) w0.heap.size [some 15, some 16, some 17, some 18, some 19, some 20, some 21, some 14, some 22, some 23, some 6, none, some 7] (VsdM A5 a b c d x y z f w0.heap.size) rfl ?_ ?_
  · intro Q lq aq W iq oq hJ hl ho hall
    have hJ2 := hJ
    obtain ⟨z1, z2, z3, z4, z5, z6, z7⟩ := hJ
    have g5 : aq.tmps.getD 5 undef = .pointer (some ⟨A5, 0, none⟩) := by rw [Array.getD_eq_getD_getElem?, z4 5 (by decide), h5]; rfl
    have c0 : W.cell? ⟨A5, 0, none⟩ = some (.int .i64 a) := (z5.cell l0).trans k0
    have c1 : W.cell? ⟨A5, 1, none⟩ = some (.int .i64 b) := (z5.cell l1).trans k1
    have c2 : W.cell? ⟨A5, 2, none⟩ = some (.int .i64 c) := (z5.cell l2).trans k2
    have c3 : W.cell? ⟨A5, 3, none⟩ = some (.int .i64 d) := (z5.cell l3).trans k3
    match iq, ho with
    | 0, ho =>
      cases ho
      refine wpOp_of rfl rfl ?_
      have hK := fun (v : Value) (W2 : World) hW hT hv => hJ2.put hS 0 15 rfl (by omega) (W' := W2) hW hT v hv
      clear ho hall hl hQ
      generalize InvQ w0.heap.size [some 15, some 16, some 17, some 18, some 19, some 20, some 21, some 14, some 22, some 23, some 6, none, some 7] (VsdM A5 a b c d x y z f w0.heap.size) w0 a0 (lq.setIfInBounds 0 true) = K at hK ⊢
      clear hJ2 hS z1 z2 z3 z4 z6 z7
      go_simp
      exact hK _ _ z5 (fun _ _ h => h) rfl
    | 1, ho =>
      cases ho
      refine wpOp_of rfl rfl ?_
      have f0 : (aq.tmps.getD 15 undef) = .pointer (some ⟨A5, 0, none⟩) := z6 0 15 (hall { on := 0, ground := Ground.data } (by simp) rfl) rfl
      have hK := fun (v : Value) (W2 : World) hW hT hv => hJ2.put hS 1 16 rfl (by omega) (W' := W2) hW hT v hv
      clear ho hall hl hQ
      generalize InvQ w0.heap.size [some 15, some 16, some 17, some 18, some 19, some 20, some 21, some 14, some 22, some 23, some 6, none, some 7] (VsdM A5 a b c d x y z f w0.heap.size) w0 a0 (lq.setIfInBounds 1 true) = K at hK ⊢
      clear hJ2 hS z1 z2 z3 z4 z6 z7
      go_simp
      exact hK _ _ z5 (fun _ _ h => h) rfl
    | 2, ho =>
      cases ho
      refine wpOp_of rfl rfl ?_
      have f1 : (aq.tmps.getD 16 undef) = .agg #[.int .i64 a, .int .i64 b] := z6 1 16 (hall { on := 1, ground := Ground.data } (by simp) rfl) rfl
      have hK := fun (v : Value) (W2 : World) hW hT hv => hJ2.put hS 2 17 rfl (by omega) (W' := W2) hW hT v hv
      clear ho hall hl hQ
      generalize InvQ w0.heap.size [some 15, some 16, some 17, some 18, some 19, some 20, some 21, some 14, some 22, some 23, some 6, none, some 7] (VsdM A5 a b c d x y z f w0.heap.size) w0 a0 (lq.setIfInBounds 2 true) = K at hK ⊢
      clear hJ2 hS z1 z2 z3 z4 z6 z7
      go_simp
      refine (hP1 W).mono ?_
      rintro e v1 ⟨rfl, hBv⟩
      exact hK _ _ (z5.trans (hBv.mono z5.size)) (fun _ _ h => h.mono hBv) rfl
    | 3, ho =>
      cases ho
      refine wpOp_of rfl rfl ?_
      have hK := fun (v : Value) (W2 : World) hW hT hv => hJ2.put hS 3 18 rfl (by omega) (W' := W2) hW hT v hv
      clear ho hall hl hQ
      generalize InvQ w0.heap.size [some 15, some 16, some 17, some 18, some 19, some 20, some 21, some 14, some 22, some 23, some 6, none, some 7] (VsdM A5 a b c d x y z f w0.heap.size) w0 a0 (lq.setIfInBounds 3 true) = K at hK ⊢
      clear hJ2 hS z1 z2 z3 z4 z6 z7
      go_simp
      exact hK _ _ z5 (fun _ _ h => h) rfl
    | 4, ho =>
      cases ho
      refine wpOp_of rfl rfl ?_
      have f3 : (aq.tmps.getD 18 undef) = .pointer (some ⟨A5, 2, none⟩) := z6 3 18 (hall { on := 3, ground := Ground.data } (by simp) rfl) rfl
      have hK := fun (v : Value) (W2 : World) hW hT hv => hJ2.put hS 4 19 rfl (by omega) (W' := W2) hW hT v hv
      clear ho hall hl hQ
      generalize InvQ w0.heap.size [some 15, some 16, some 17, some 18, some 19, some 20, some 21, some 14, some 22, some 23, some 6, none, some 7] (VsdM A5 a b c d x y z f w0.heap.size) w0 a0 (lq.setIfInBounds 4 true) = K at hK ⊢
      clear hJ2 hS z1 z2 z3 z4 z6 z7
      go_simp
      exact hK _ _ z5 (fun _ _ h => h) rfl
    | 5, ho =>
      cases ho
      refine wpOp_of rfl rfl ?_
      have f4 : (aq.tmps.getD 19 undef) = .agg #[.int .i64 c, .int .i64 d] := z6 4 19 (hall { on := 4, ground := Ground.data } (by simp) rfl) rfl
      have hK := fun (v : Value) (W2 : World) hW hT hv => hJ2.put hS 5 20 rfl (by omega) (W' := W2) hW hT v hv
      clear ho hall hl hQ
      generalize InvQ w0.heap.size [some 15, some 16, some 17, some 18, some 19, some 20, some 21, some 14, some 22, some 23, some 6, none, some 7] (VsdM A5 a b c d x y z f w0.heap.size) w0 a0 (lq.setIfInBounds 5 true) = K at hK ⊢
      clear hJ2 hS z1 z2 z3 z4 z6 z7
      go_simp
      refine (hP2 W).mono ?_
      rintro e v1 ⟨rfl, hBv⟩
      exact hK _ _ (z5.trans (hBv.mono z5.size)) (fun _ _ h => h.mono hBv) rfl
    | 6, ho =>
      cases ho
      refine wpOp_of rfl rfl ?_
      have f2 : (aq.tmps.getD 17 undef) = .agg #[.int .u64 (ww3 a), .int .u64 (ww2 a), .int .u64 (ww1 a), .int .u64 (ww0 a), .int .u64 (ww3 b), .int .u64 (ww2 b), .int .u64 (ww1 b), .int .u64 (ww0 b), .int .u64 (ww3 1), .int .u64 (ww2 1), .int .u64 (ww1 1), .int .u64 (ww0 1)] := z6 2 17 (hall { on := 2, ground := Ground.data } (by simp) rfl) rfl
      have f5 : (aq.tmps.getD 20 undef) = .agg #[.int .u64 (ww3 c), .int .u64 (ww2 c), .int .u64 (ww1 c), .int .u64 (ww0 c), .int .u64 (ww3 d), .int .u64 (ww2 d), .int .u64 (ww1 d), .int .u64 (ww0 d), .int .u64 (ww3 1), .int .u64 (ww2 1), .int .u64 (ww1 1), .int .u64 (ww0 1)] := z6 5 20 (hall { on := 5, ground := Ground.data } (by simp) rfl) rfl
      have hK := fun (v : Value) (W2 : World) hW hT hv => hJ2.put hS 6 21 rfl (by omega) (W' := W2) hW hT v hv
      clear ho hall hl hQ
      generalize InvQ w0.heap.size [some 15, some 16, some 17, some 18, some 19, some 20, some 21, some 14, some 22, some 23, some 6, none, some 7] (VsdM A5 a b c d x y z f w0.heap.size) w0 a0 (lq.setIfInBounds 6 true) = K at hK ⊢
      clear hJ2 hS z1 z2 z3 z4 z6 z7
      go_simp
      refine (hM W).mono ?_
      rintro e v1 ⟨rfl, hBv⟩
      exact hK _ _ (z5.trans (hBv.mono z5.size)) (fun _ _ h => h.mono hBv) rfl
    | 7, ho =>
      cases ho
      refine wpOp_of rfl rfl ?_
      have f6 : (aq.tmps.getD 21 undef) = .tuple #[.agg #[.int .u64 (ww3 x), .int .u64 (ww2 x), .int .u64 (ww1 x), .int .u64 (ww0 x), .int .u64 (ww3 y), .int .u64 (ww2 y), .int .u64 (ww1 y), .int .u64 (ww0 y), .int .u64 (ww3 z), .int .u64 (ww2 z), .int .u64 (ww1 z), .int .u64 (ww0 z)], .bool f] := z6 6 21 (hall { on := 6, ground := Ground.data } (by simp) rfl) rfl
      have hK := fun (v : Value) (W2 : World) hW hT hv => hJ2.put hS 7 14 rfl (by omega) (W' := W2) hW hT v hv
      clear ho hall hl hQ
      generalize InvQ w0.heap.size [some 15, some 16, some 17, some 18, some 19, some 20, some 21, some 14, some 22, some 23, some 6, none, some 7] (VsdM A5 a b c d x y z f w0.heap.size) w0 a0 (lq.setIfInBounds 7 true) = K at hK ⊢
      clear hJ2 hS z1 z2 z3 z4 z6 z7
      go_simp
      exact hK _ _ z5 (fun _ _ h => h) rfl
    | 8, ho =>
      cases ho
      refine wpOp_of rfl rfl ?_
      have f7 : (aq.tmps.getD 14 undef) = .tuple #[.agg #[.int .u64 (ww3 x), .int .u64 (ww2 x), .int .u64 (ww1 x), .int .u64 (ww0 x), .int .u64 (ww3 y), .int .u64 (ww2 y), .int .u64 (ww1 y), .int .u64 (ww0 y), .int .u64 (ww3 z), .int .u64 (ww2 z), .int .u64 (ww1 z), .int .u64 (ww0 z)], .bool f] := z6 7 14 (hall { on := 7, ground := Ground.data } (by simp) rfl) rfl
      have hK := fun (v : Value) (W2 : World) hW hT hv => hJ2.put hS 8 22 rfl (by omega) (W' := W2) hW hT v hv
      clear ho hall hl hQ
      generalize InvQ w0.heap.size [some 15, some 16, some 17, some 18, some 19, some 20, some 21, some 14, some 22, some 23, some 6, none, some 7] (VsdM A5 a b c d x y z f w0.heap.size) w0 a0 (lq.setIfInBounds 8 true) = K at hK ⊢
      clear hJ2 hS z1 z2 z3 z4 z6 z7
      go_simp
      exact hK _ _ z5 (fun _ _ h => h) rfl
    | 9, ho =>
      cases ho
      refine wpOp_of rfl rfl ?_
      have f7 : (aq.tmps.getD 14 undef) = .tuple #[.agg #[.int .u64 (ww3 x), .int .u64 (ww2 x), .int .u64 (ww1 x), .int .u64 (ww0 x), .int .u64 (ww3 y), .int .u64 (ww2 y), .int .u64 (ww1 y), .int .u64 (ww0 y), .int .u64 (ww3 z), .int .u64 (ww2 z), .int .u64 (ww1 z), .int .u64 (ww0 z)], .bool f] := z6 7 14 (hall { on := 7, ground := Ground.data } (by simp) rfl) rfl
      have hK := fun (v : Value) (W2 : World) hW hT hv => hJ2.put hS 9 23 rfl (by omega) (W' := W2) hW hT v hv
      clear ho hall hl hQ
      generalize InvQ w0.heap.size [some 15, some 16, some 17, some 18, some 19, some 20, some 21, some 14, some 22, some 23, some 6, none, some 7] (VsdM A5 a b c d x y z f w0.heap.size) w0 a0 (lq.setIfInBounds 9 true) = K at hK ⊢
      clear hJ2 hS z1 z2 z3 z4 z6 z7
      go_simp
      exact hK _ _ z5 (fun _ _ h => h) rfl
    | 10, ho =>
      cases ho
      refine wpOp_of rfl rfl ?_
      have hK := fun (v : Value) (W2 : World) hW hT hv => hJ2.put hS 10 6 rfl (by omega) (W' := W2) hW hT v hv
      clear ho hall hl hQ
      generalize InvQ w0.heap.size [some 15, some 16, some 17, some 18, some 19, some 20, some 21, some 14, some 22, some 23, some 6, none, some 7] (VsdM A5 a b c d x y z f w0.heap.size) w0 a0 (lq.setIfInBounds 10 true) = K at hK ⊢
      clear hJ2 hS z1 z2 z3 z4 z6 z7
      go_simp
      exact hK _ _ (z5.alloc z5.size _) (fun _ _ h => h.mono ((Below.refl _ _).alloc (Nat.le_refl _) _)) ⟨_, rfl, z5.size, 0, 0, 0, by decide, by decide, by decide, show Blk _ _ [.int .u64 (ww3 0), .int .u64 (ww2 0), .int .u64 (ww1 0), .int .u64 (ww0 0), .int .u64 (ww3 0), .int .u64 (ww2 0), .int .u64 (ww1 0), .int .u64 (ww0 0), .int .u64 (ww3 0), .int .u64 (ww2 0), .int .u64 (ww1 0), .int .u64 (ww0 0)] from Blk.new W [.int .u64 0, .int .u64 0, .int .u64 0, .int .u64 0, .int .u64 0, .int .u64 0, .int .u64 0, .int .u64 0, .int .u64 0, .int .u64 0, .int .u64 0, .int .u64 0] _ rfl⟩
    | 11, ho =>
      cases ho
      refine wpOp_of rfl rfl ?_
      have f10 : ∃ gz, (aq.tmps.getD 6 undef) = .pointer (some ⟨gz, 0, none⟩) ∧ w0.heap.size ≤ gz ∧ ∃ p q r : Int, told p = true ∧ told q = true ∧ told r = true ∧ Blk W gz [.int .u64 (ww3 p), .int .u64 (ww2 p), .int .u64 (ww1 p), .int .u64 (ww0 p), .int .u64 (ww3 q), .int .u64 (ww2 q), .int .u64 (ww1 q), .int .u64 (ww0 q), .int .u64 (ww3 r), .int .u64 (ww2 r), .int .u64 (ww1 r), .int .u64 (ww0 r)] := z6 10 6 (hall { on := 10, ground := Ground.data } (by simp) rfl) rfl
      have f8 : (aq.tmps.getD 22 undef) = .agg #[.int .u64 (ww3 x), .int .u64 (ww2 x), .int .u64 (ww1 x), .int .u64 (ww0 x), .int .u64 (ww3 y), .int .u64 (ww2 y), .int .u64 (ww1 y), .int .u64 (ww0 y), .int .u64 (ww3 z), .int .u64 (ww2 z), .int .u64 (ww1 z), .int .u64 (ww0 z)] := z6 8 22 (hall { on := 8, ground := Ground.data } (by simp) rfl) rfl
      have hK := fun (W2 : World) hW hT hv => hJ2.world 11 rfl (W' := W2) hW hT hv
      clear ho hall hl hQ
      generalize InvQ w0.heap.size [some 15, some 16, some 17, some 18, some 19, some 20, some 21, some 14, some 22, some 23, some 6, none, some 7] (VsdM A5 a b c d x y z f w0.heap.size) w0 a0 (lq.setIfInBounds 11 true) = K at hK ⊢
      clear hJ2 hS z1 z2 z3 z4 z6 z7
      obtain ⟨gz, e10, hgz, p, q, r, tp, tq, tr, GZ⟩ := f10
      have gl := GZ.lt
      have c0z := GZ.c 0 rfl; have d0z := GZ.f 0 rfl; have c1z := GZ.c 1 rfl; have d1z := GZ.f 1 rfl; have c2z := GZ.c 2 rfl; have d2z := GZ.f 2 rfl; have c3z := GZ.c 3 rfl; have d3z := GZ.f 3 rfl; have c4z := GZ.c 4 rfl; have d4z := GZ.f 4 rfl; have c5z := GZ.c 5 rfl; have d5z := GZ.f 5 rfl; have c6z := GZ.c 6 rfl; have d6z := GZ.f 6 rfl; have c7z := GZ.c 7 rfl; have d7z := GZ.f 7 rfl; have c8z := GZ.c 8 rfl; have d8z := GZ.f 8 rfl; have c9z := GZ.c 9 rfl; have d9z := GZ.f 9 rfl; have c10z := GZ.c 10 rfl; have d10z := GZ.f 10 rfl; have c11z := GZ.c 11 rfl; have d11z := GZ.f 11 rfl
      have NB : Blk ((((((((((((W.setCell ⟨gz, 0, none⟩ (.int .u64 (ww3 x))).setCell ⟨gz, 1, none⟩ (.int .u64 (ww2 x))).setCell ⟨gz, 2, none⟩ (.int .u64 (ww1 x))).setCell ⟨gz, 3, none⟩ (.int .u64 (ww0 x))).setCell ⟨gz, 4, none⟩ (.int .u64 (ww3 y))).setCell ⟨gz, 5, none⟩ (.int .u64 (ww2 y))).setCell ⟨gz, 6, none⟩ (.int .u64 (ww1 y))).setCell ⟨gz, 7, none⟩ (.int .u64 (ww0 y))).setCell ⟨gz, 8, none⟩ (.int .u64 (ww3 z))).setCell ⟨gz, 9, none⟩ (.int .u64 (ww2 z))).setCell ⟨gz, 10, none⟩ (.int .u64 (ww1 z))).setCell ⟨gz, 11, none⟩ (.int .u64 (ww0 z))) gz [.int .u64 (ww3 x), .int .u64 (ww2 x), .int .u64 (ww1 x), .int .u64 (ww0 x), .int .u64 (ww3 y), .int .u64 (ww2 y), .int .u64 (ww1 y), .int .u64 (ww0 y), .int .u64 (ww3 z), .int .u64 (ww2 z), .int .u64 (ww1 z), .int .u64 (ww0 z)] := GZ.stored12 _ _ _ _ _ _ _ _ _ _ _ _
      have NO : ∀ g vs, g ≠ gz → Blk W g vs → Blk ((((((((((((W.setCell ⟨gz, 0, none⟩ (.int .u64 (ww3 x))).setCell ⟨gz, 1, none⟩ (.int .u64 (ww2 x))).setCell ⟨gz, 2, none⟩ (.int .u64 (ww1 x))).setCell ⟨gz, 3, none⟩ (.int .u64 (ww0 x))).setCell ⟨gz, 4, none⟩ (.int .u64 (ww3 y))).setCell ⟨gz, 5, none⟩ (.int .u64 (ww2 y))).setCell ⟨gz, 6, none⟩ (.int .u64 (ww1 y))).setCell ⟨gz, 7, none⟩ (.int .u64 (ww0 y))).setCell ⟨gz, 8, none⟩ (.int .u64 (ww3 z))).setCell ⟨gz, 9, none⟩ (.int .u64 (ww2 z))).setCell ⟨gz, 10, none⟩ (.int .u64 (ww1 z))).setCell ⟨gz, 11, none⟩ (.int .u64 (ww0 z))) g vs := fun g vs hg hb => hb.set12 hg
      have NL : Below w0.heap.size w0 ((((((((((((W.setCell ⟨gz, 0, none⟩ (.int .u64 (ww3 x))).setCell ⟨gz, 1, none⟩ (.int .u64 (ww2 x))).setCell ⟨gz, 2, none⟩ (.int .u64 (ww1 x))).setCell ⟨gz, 3, none⟩ (.int .u64 (ww0 x))).setCell ⟨gz, 4, none⟩ (.int .u64 (ww3 y))).setCell ⟨gz, 5, none⟩ (.int .u64 (ww2 y))).setCell ⟨gz, 6, none⟩ (.int .u64 (ww1 y))).setCell ⟨gz, 7, none⟩ (.int .u64 (ww0 y))).setCell ⟨gz, 8, none⟩ (.int .u64 (ww3 z))).setCell ⟨gz, 9, none⟩ (.int .u64 (ww2 z))).setCell ⟨gz, 10, none⟩ (.int .u64 (ww1 z))).setCell ⟨gz, 11, none⟩ (.int .u64 (ww0 z))) := Below.set12 hgz z5
      clear GZ
      go_simp
      exact hK _ NL (fun j v h => VsdM.put NO ⟨x, y, z, tx, ty, tz, NB⟩ h) trivial
    | 12, ho =>
      cases ho
      refine wpOp_of rfl rfl ?_
      have f9 : (aq.tmps.getD 23 undef) = .bool f := z6 9 23 (hall { on := 9, ground := Ground.data } (by simp) rfl) rfl
      have hK := fun (v : Value) (W2 : World) hW hT hv => hJ2.put hS 12 7 rfl (by omega) (W' := W2) hW hT v hv
      clear ho hall hl hQ
      generalize InvQ w0.heap.size [some 15, some 16, some 17, some 18, some 19, some 20, some 21, some 14, some 22, some 23, some 6, none, some 7] (VsdM A5 a b c d x y z f w0.heap.size) w0 a0 (lq.setIfInBounds 12 true) = K at hK ⊢
      clear hJ2 hS z1 z2 z3 z4 z6 z7
      go_simp
      exact hK _ _ z5 (fun _ _ h => h) rfl
    | iq + 13, ho => simp at ho
  · intro lq aq W hJ hr
    obtain ⟨z1, z2, z3, z4, z5, z6, z7⟩ := hJ
    have hl := listed_of hr [10] [] (by simp) (by kernel_rfl) (by rw [z1]; decide)
    exact hQ aq W z2 z3 (fun e he => z4 e (by simpa using he)) (z6 10 6 (hl 10 (by simp)) rfl) z5
end Go.Proofs.YtniccikkhddofaaGreat
