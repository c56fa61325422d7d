/- Where a segment stands over a point: the model's side. -/
import Derived.Test.YtckbhihdhcgaeaaSgE
namespace Go.Proofs.Ytckbhihdhcgaeaa
open Go.RowKit
theorem seg_le {a b c d : Int} (h : segOk a b c d = true) : a ≤ c := by
  unfold segOk lessI at h
  simp at h
  omega
set_option maxRecDepth 100000 in
set_option maxHeartbeats 2000000 in
theorem specOverAt_det (a b c d x y z : Int) (hx : told x = true) (hy : told y = true) (hz : told z = true) (w : World) : Calls Try.prog 45 #[Sg a b c d, PV x y z] w (VP (.int .i64 (overI a b c d x y z)) w) := by
  have T0 : ArgsB w ((w.alloc (.cells #[.int .i64 a, .int .i64 b, .int .i64 c, .int .i64 d] 56)).alloc (.cells #[.int .u64 (ww3 x), .int .u64 (ww2 x), .int .u64 (ww1 x), .int .u64 (ww0 x), .int .u64 (ww3 y), .int .u64 (ww2 y), .int .u64 (ww1 y), .int .u64 (ww0 y), .int .u64 (ww3 z), .int .u64 (ww2 z), .int .u64 (ww1 z), .int .u64 (ww0 z)] 30)) [[.int .i64 a, .int .i64 b, .int .i64 c, .int .i64 d], [.int .u64 (ww3 x), .int .u64 (ww2 x), .int .u64 (ww1 x), .int .u64 (ww0 x), .int .u64 (ww3 y), .int .u64 (ww2 y), .int .u64 (ww1 y), .int .u64 (ww0 y), .int .u64 (ww3 z), .int .u64 (ww2 z), .int .u64 (ww1 z), .int .u64 (ww0 z)]] := ar2 _ _ _ _ w
  have SO := fun w => specSegOk_any a b c d _ rfl w
  have PO := specPointOk_det x y z hx hy hz
  have F3 := l3Of_det x y z hx hy hz
  clear hx hy hz
  by_cases hs : segOk a b c d = true
  · obtain ⟨i1, i2, i3, i4⟩ := in6_seg hs
    by_cases hp : ptB x y z = true
    · have HO : Hid (overI a b c d x y z = overJ a b c d x y z) := by show _ = _; unfold overI; rw [hs, hp]; rfl
      obtain ⟨pz, sx, sy, sz⟩ := ptB_small hp
      rw [hs] at SO
      rw [hp] at PO
      have HJ : Hid (overJ a b c d x y z = if cmpI (x * 1) (a * z) < 0 then 2 else if cmpI (x * 1) (c * z) > 0 then 2 else if a < c then -turnI a b 1 c d 1 x y z else if cmpI (y * 1) (b * z) < 0 then 1 else if cmpI (y * 1) (d * z) > 0 then -1 else 0) := rfl
      have hac : a ≤ c := seg_le hs
      have F1 := l3Spot_det a b i1 i2
      have F2 := l3Spot_det c d i3 i4
      have H3 : turnI a b 1 c d 1 x y z = -1 ∨ turnI a b 1 c d 1 x y z = 0 ∨ turnI a b 1 c d 1 x y z = 1 := cmpI_in _ _
      rw [HO.out]
      clear hs hp pz sx sy sz i1 i2 i3 i4
      generalize hJ : overJ a b c d x y z = J at *
      clear hJ
      go_enter Try.func45, Try.ntmps45
      go_wp2_with fail
      generalize ((w.alloc (.cells #[.int .i64 a, .int .i64 b, .int .i64 c, .int .i64 d] 56)).alloc (.cells #[.int .u64 (ww3 x), .int .u64 (ww2 x), .int .u64 (ww1 x), .int .u64 (ww0 x), .int .u64 (ww3 y), .int .u64 (ww2 y), .int .u64 (ww1 y), .int .u64 (ww0 y), .int .u64 (ww3 z), .int .u64 (ww2 z), .int .u64 (ww1 z), .int .u64 (ww0 z)] 30)) = W at *
      refine (SO _).mono ?_
      rintro e w1 ⟨rfl, hB⟩
      replace T0 := T0.step hB
      clear hB SO
      have Y0 : Blk _ (w.heap.size + 1) _ := T0.b 1 rfl; have q0 := Y0.c 0 rfl; have q1 := Y0.c 1 rfl; have q2 := Y0.c 2 rfl; have q3 := Y0.c 3 rfl; have q4 := Y0.c 4 rfl; have q5 := Y0.c 5 rfl; have q6 := Y0.c 6 rfl; have q7 := Y0.c 7 rfl; have q8 := Y0.c 8 rfl; have q9 := Y0.c 9 rfl; have q10 := Y0.c 10 rfl; have q11 := Y0.c 11 rfl; have ql := Y0.lt; clear Y0
      go_wp2_with fail
      refine (PO _).mono ?_
      rintro e w2 ⟨rfl, hB⟩
      replace T0 := T0.step hB
      clear hB PO q0 q1 q2 q3 q4 q5 q6 q7 q8 q9 q10 q11 ql
      have Y1 : Blk _ w.heap.size _ := T0.b 0 rfl; have g0 := Y1.c 0 rfl; have g1 := Y1.c 1 rfl; have g2 := Y1.c 2 rfl; have g3 := Y1.c 3 rfl; clear Y1
      go_wp2_with fail
      refine (F1 _).mono ?_
      rintro e w3 ⟨ps1, po1, pn1, pc1, pd1, ps2, po2, pn2, pc2, pd2, ps3, po3, pn3, pc3, pd3, rfl, Np1, Np2, Np3, hB⟩
      replace T0 := T0.step hB
      have hA : Below w3.heap.size w3 (w3.alloc (.cells #[.bool ps1, .slice po1 pn1 pc1, .bool ps2, .slice po2 pn2 pc2, .bool ps3, .slice po3 pn3 pc3] 84)) := (Below.refl _ _).alloc (Nat.le_refl _) _
      have Xp := Blk.new w3 [.bool ps1, .slice po1 pn1 pc1, .bool ps2, .slice po2 pn2 pc2, .bool ps3, .slice po3 pn3 pc3] 84 rfl
      replace T0 := T0.alloc (.cells #[.bool ps1, .slice po1 pn1 pc1, .bool ps2, .slice po2 pn2 pc2, .bool ps3, .slice po3 pn3 pc3] 84)
      replace Np1 := Np1.below hA; replace Np2 := Np2.below hA; replace Np3 := Np3.below hA
      clear hA
      clear hB g0 g1 g2 g3 F1
      have Y1 : Blk _ w.heap.size _ := T0.b 0 rfl; have g0 := Y1.c 0 rfl; have g1 := Y1.c 1 rfl; have g2 := Y1.c 2 rfl; have g3 := Y1.c 3 rfl; clear Y1
      go_wp2_with fail
      refine (F2 _).mono ?_
      rintro e w4 ⟨qs1, qo1, qn1, qc1, qd1, qs2, qo2, qn2, qc2, qd2, qs3, qo3, qn3, qc3, qd3, rfl, Nq1, Nq2, Nq3, hB⟩
      replace T0 := T0.step hB
      replace Xp := Xp.step hB
      replace Np1 := Np1.below hB; replace Np2 := Np2.below hB; replace Np3 := Np3.below hB
      have hA : Below w4.heap.size w4 (w4.alloc (.cells #[.bool qs1, .slice qo1 qn1 qc1, .bool qs2, .slice qo2 qn2 qc2, .bool qs3, .slice qo3 qn3 qc3] 84)) := (Below.refl _ _).alloc (Nat.le_refl _) _
      have Xq := Blk.new w4 [.bool qs1, .slice qo1 qn1 qc1, .bool qs2, .slice qo2 qn2 qc2, .bool qs3, .slice qo3 qn3 qc3] 84 rfl
      replace Xp := Xp.alloc (.cells #[.bool qs1, .slice qo1 qn1 qc1, .bool qs2, .slice qo2 qn2 qc2, .bool qs3, .slice qo3 qn3 qc3] 84)
      replace T0 := T0.alloc (.cells #[.bool qs1, .slice qo1 qn1 qc1, .bool qs2, .slice qo2 qn2 qc2, .bool qs3, .slice qo3 qn3 qc3] 84)
      replace Np1 := Np1.below hA; replace Np2 := Np2.below hA; replace Np3 := Np3.below hA; replace Nq1 := Nq1.below hA; replace Nq2 := Nq2.below hA; replace Nq3 := Nq3.below hA
      clear hA
      clear hB g0 g1 g2 g3 F2
      have Y0 : Blk _ (w.heap.size + 1) _ := T0.b 1 rfl; have q0 := Y0.c 0 rfl; have q1 := Y0.c 1 rfl; have q2 := Y0.c 2 rfl; have q3 := Y0.c 3 rfl; have q4 := Y0.c 4 rfl; have q5 := Y0.c 5 rfl; have q6 := Y0.c 6 rfl; have q7 := Y0.c 7 rfl; have q8 := Y0.c 8 rfl; have q9 := Y0.c 9 rfl; have q10 := Y0.c 10 rfl; have q11 := Y0.c 11 rfl; have ql := Y0.lt; clear Y0
      go_wp2_with fail
      refine (F3 _).mono ?_
      rintro e w5 ⟨rs1, ro1, rn1, rc1, rd1, rs2, ro2, rn2, rc2, rd2, rs3, ro3, rn3, rc3, rd3, rfl, Nr1, Nr2, Nr3, hB⟩
      replace T0 := T0.step hB
      replace Xp := Xp.step hB
      replace Xq := Xq.step hB
      replace Np1 := Np1.below hB; replace Np2 := Np2.below hB; replace Np3 := Np3.below hB; replace Nq1 := Nq1.below hB; replace Nq2 := Nq2.below hB; replace Nq3 := Nq3.below hB
      have hA : Below w5.heap.size w5 (w5.alloc (.cells #[.bool rs1, .slice ro1 rn1 rc1, .bool rs2, .slice ro2 rn2 rc2, .bool rs3, .slice ro3 rn3 rc3] 84)) := (Below.refl _ _).alloc (Nat.le_refl _) _
      have Xr := Blk.new w5 [.bool rs1, .slice ro1 rn1 rc1, .bool rs2, .slice ro2 rn2 rc2, .bool rs3, .slice ro3 rn3 rc3] 84 rfl
      replace Xp := Xp.alloc (.cells #[.bool rs1, .slice ro1 rn1 rc1, .bool rs2, .slice ro2 rn2 rc2, .bool rs3, .slice ro3 rn3 rc3] 84)
      replace Xq := Xq.alloc (.cells #[.bool rs1, .slice ro1 rn1 rc1, .bool rs2, .slice ro2 rn2 rc2, .bool rs3, .slice ro3 rn3 rc3] 84)
      replace T0 := T0.alloc (.cells #[.bool rs1, .slice ro1 rn1 rc1, .bool rs2, .slice ro2 rn2 rc2, .bool rs3, .slice ro3 rn3 rc3] 84)
      replace Np1 := Np1.below hA; replace Np2 := Np2.below hA; replace Np3 := Np3.below hA; replace Nq1 := Nq1.below hA; replace Nq2 := Nq2.below hA; replace Nq3 := Nq3.below hA; replace Nr1 := Nr1.below hA; replace Nr2 := Nr2.below hA; replace Nr3 := Nr3.below hA
      clear hA
      clear hB q0 q1 q2 q3 q4 q5 q6 q7 q8 q9 q10 q11 ql F3
      have kp0 := Xp.c 0 rfl; have kp1 := Xp.c 1 rfl; have kp2 := Xp.c 2 rfl; have kp3 := Xp.c 3 rfl; have kp4 := Xp.c 4 rfl; have kp5 := Xp.c 5 rfl; have kq0 := Xq.c 0 rfl; have kq1 := Xq.c 1 rfl; have kq2 := Xq.c 2 rfl; have kq3 := Xq.c 3 rfl; have kq4 := Xq.c 4 rfl; have kq5 := Xq.c 5 rfl; have kr0 := Xr.c 0 rfl; have kr1 := Xr.c 1 rfl; have kr2 := Xr.c 2 rfl; have kr3 := Xr.c 3 rfl; have kr4 := Xr.c 4 rfl; have kr5 := Xr.c 5 rfl
      go_wp2_with fail
      generalize w5.alloc (.cells #[.bool rs1, .slice ro1 rn1 rc1, .bool rs2, .slice ro2 rn2 rc2, .bool rs3, .slice ro3 rn3 rc3] 84) = W5 at *
      generalize w5.heap.size = g5 at *
      generalize w4.heap.size = g4 at *
      generalize w3.heap.size = g3 at *
      refine (l3CmpX_any rs1 rs2 rs3 ro1 ro2 ro3 rn1 rc1 rn2 rc2 rn3 rc3 ps1 ps2 ps3 po1 po2 po3 pn1 pc1 pn2 pc2 pn3 pc3 rd1 rd3 pd1 pd3 x z a 1 8 (by omega) _ Nr1 Nr3 Np1 Np3).mono ?_
      rintro e w6 ⟨rfl, hB⟩
      replace T0 := T0.step hB; replace Xp := Xp.step hB; replace Xq := Xq.step hB; replace Xr := Xr.step hB
      replace Np1 := Np1.below hB; replace Np2 := Np2.below hB; replace Np3 := Np3.below hB; replace Nq1 := Nq1.below hB; replace Nq2 := Nq2.below hB; replace Nq3 := Nq3.below hB; replace Nr1 := Nr1.below hB; replace Nr2 := Nr2.below hB; replace Nr3 := Nr3.below hB
      clear hB kp0 kp1 kp2 kp3 kp4 kp5 kq0 kq1 kq2 kq3 kq4 kq5 kr0 kr1 kr2 kr3 kr4 kr5
      have KX2 := fun w N1 N3 M1 M3 => l3CmpX_any rs1 rs2 rs3 ro1 ro2 ro3 rn1 rc1 rn2 rc2 rn3 rc3 qs1 qs2 qs3 qo1 qo2 qo3 qn1 qc1 qn2 qc2 qn3 qc3 rd1 rd3 qd1 qd3 x z c 1 8 (by omega) w N1 N3 M1 M3
      have KY1 := fun w N1 N3 M1 M3 => l3CmpY_any rs1 rs2 rs3 ro1 ro2 ro3 rn1 rc1 rn2 rc2 rn3 rc3 ps1 ps2 ps3 po1 po2 po3 pn1 pc1 pn2 pc2 pn3 pc3 rd2 rd3 pd2 pd3 y z b 1 8 (by omega) w N1 N3 M1 M3
      have KY2 := fun w N1 N3 M1 M3 => l3CmpY_any rs1 rs2 rs3 ro1 ro2 ro3 rn1 rc1 rn2 rc2 rn3 rc3 qs1 qs2 qs3 qo1 qo2 qo3 qn1 qc1 qn2 qc2 qn3 qc3 rd2 rd3 qd2 qd3 y z d 1 8 (by omega) w N1 N3 M1 M3
      have KO := fun w N1 N2 N3 M1 M2 M3 O1 O2 O3 => l3Orient_any ps1 ps2 ps3 po1 po2 po3 pn1 pc1 pn2 pc2 pn3 pc3 qs1 qs2 qs3 qo1 qo2 qo3 qn1 qc1 qn2 qc2 qn3 qc3 rs1 rs2 rs3 ro1 ro2 ro3 rn1 rc1 rn2 rc2 rn3 rc3 pd1 pd2 pd3 qd1 qd2 qd3 rd1 rd2 rd3 a b 1 c d 1 x y z 8 (by omega) w N1 N2 N3 M1 M2 M3 O1 O2 O3
      generalize cmpI (x * 1) (a * z) = o1 at *
      generalize cmpI (x * 1) (c * z) = o2 at *
      generalize turnI a b 1 c d 1 x y z = o3 at *
      generalize cmpI (y * 1) (b * z) = o4 at *
      generalize cmpI (y * 1) (d * z) = o5 at *
      by_cases h1 : o1 < 0
      · have HO : Hid (J = 2) := by show _ = _; rw [HJ.out, if_pos (show o1 < 0 by omega)]
        have HB := T0.below
        clear T0 Xp Xq Xr Np1 Np2 Np3 Nq1 Nq2 Nq3 Nr1 Nr2 Nr3
        go_wp2
        go_ret
        exact ⟨by rw [HO.out]; rfl, HB⟩
      · have K1 : Hid (¬ o1 < 0) := h1
        have kp0 := Xp.c 0 rfl; have kp1 := Xp.c 1 rfl; have kp2 := Xp.c 2 rfl; have kp3 := Xp.c 3 rfl; have kp4 := Xp.c 4 rfl; have kp5 := Xp.c 5 rfl; have kq0 := Xq.c 0 rfl; have kq1 := Xq.c 1 rfl; have kq2 := Xq.c 2 rfl; have kq3 := Xq.c 3 rfl; have kq4 := Xq.c 4 rfl; have kq5 := Xq.c 5 rfl; have kr0 := Xr.c 0 rfl; have kr1 := Xr.c 1 rfl; have kr2 := Xr.c 2 rfl; have kr3 := Xr.c 3 rfl; have kr4 := Xr.c 4 rfl; have kr5 := Xr.c 5 rfl
        go_wp2_with fail
        refine (KX2 _ Nr1 Nr3 Nq1 Nq3).mono ?_
        rintro e w7 ⟨rfl, hB⟩
        replace T0 := T0.step hB; replace Xp := Xp.step hB; replace Xq := Xq.step hB; replace Xr := Xr.step hB
        replace Np1 := Np1.below hB; replace Np2 := Np2.below hB; replace Np3 := Np3.below hB; replace Nq1 := Nq1.below hB; replace Nq2 := Nq2.below hB; replace Nq3 := Nq3.below hB; replace Nr1 := Nr1.below hB; replace Nr2 := Nr2.below hB; replace Nr3 := Nr3.below hB
        clear hB kp0 kp1 kp2 kp3 kp4 kp5 kq0 kq1 kq2 kq3 kq4 kq5 kr0 kr1 kr2 kr3 kr4 kr5
        by_cases h2 : o2 > 0
        · have HO : Hid (J = 2) := by show _ = _; rw [HJ.out, if_neg (show ¬ o1 < 0 by have := K1.out; omega), if_pos (show o2 > 0 by omega)]
          have HB := T0.below
          clear T0 Xp Xq Xr Np1 Np2 Np3 Nq1 Nq2 Nq3 Nr1 Nr2 Nr3
          go_wp2
          go_ret
          exact ⟨by rw [HO.out]; rfl, HB⟩
        · have K2 : Hid (¬ o2 > 0) := h2
          have Y1 : Blk _ w.heap.size _ := T0.b 0 rfl; have g0 := Y1.c 0 rfl; have g1 := Y1.c 1 rfl; have g2 := Y1.c 2 rfl; have g3 := Y1.c 3 rfl; clear Y1
          by_cases h3 : a < c
          · have HO : Hid (J = -o3) := by show _ = _; rw [HJ.out, if_neg (show ¬ o1 < 0 by have := K1.out; omega), if_neg (show ¬ o2 > 0 by have := K2.out; omega), if_pos (show a < c by omega)]
            have h3' : ¬ a = c := by omega
            have h3b : (a == c) = false := by simpa using h3'
            have kp0 := Xp.c 0 rfl; have kp1 := Xp.c 1 rfl; have kp2 := Xp.c 2 rfl; have kp3 := Xp.c 3 rfl; have kp4 := Xp.c 4 rfl; have kp5 := Xp.c 5 rfl; have kq0 := Xq.c 0 rfl; have kq1 := Xq.c 1 rfl; have kq2 := Xq.c 2 rfl; have kq3 := Xq.c 3 rfl; have kq4 := Xq.c 4 rfl; have kq5 := Xq.c 5 rfl; have kr0 := Xr.c 0 rfl; have kr1 := Xr.c 1 rfl; have kr2 := Xr.c 2 rfl; have kr3 := Xr.c 3 rfl; have kr4 := Xr.c 4 rfl; have kr5 := Xr.c 5 rfl
            go_wp2_with fail
            refine (KO _ Np1 Np2 Np3 Nq1 Nq2 Nq3 Nr1 Nr2 Nr3).mono ?_
            rintro e w8 ⟨rfl, hB⟩
            replace T0 := T0.step hB; replace Xp := Xp.step hB; replace Xq := Xq.step hB; replace Xr := Xr.step hB
            replace Np1 := Np1.below hB; replace Np2 := Np2.below hB; replace Np3 := Np3.below hB; replace Nq1 := Nq1.below hB; replace Nq2 := Nq2.below hB; replace Nq3 := Nq3.below hB; replace Nr1 := Nr1.below hB; replace Nr2 := Nr2.below hB; replace Nr3 := Nr3.below hB
            clear hB kp0 kp1 kp2 kp3 kp4 kp5 kq0 kq1 kq2 kq3 kq4 kq5 kr0 kr1 kr2 kr3 kr4 kr5
            have n1 : -1 ≤ o3 := by omega
            have n2 : o3 ≤ 1 := by omega
            clear g0 g1 g2 g3
            have HB := T0.below
            clear T0 Xp Xq Xr Np1 Np2 Np3 Nq1 Nq2 Nq3 Nr1 Nr2 Nr3
            go_wp2
            go_ret
            exact ⟨by rw [HO.out]; rfl, HB⟩
          · have K3 : Hid (¬ a < c) := h3
            obtain rfl : a = c := by omega
            have kp0 := Xp.c 0 rfl; have kp1 := Xp.c 1 rfl; have kp2 := Xp.c 2 rfl; have kp3 := Xp.c 3 rfl; have kp4 := Xp.c 4 rfl; have kp5 := Xp.c 5 rfl; have kq0 := Xq.c 0 rfl; have kq1 := Xq.c 1 rfl; have kq2 := Xq.c 2 rfl; have kq3 := Xq.c 3 rfl; have kq4 := Xq.c 4 rfl; have kq5 := Xq.c 5 rfl; have kr0 := Xr.c 0 rfl; have kr1 := Xr.c 1 rfl; have kr2 := Xr.c 2 rfl; have kr3 := Xr.c 3 rfl; have kr4 := Xr.c 4 rfl; have kr5 := Xr.c 5 rfl
            go_wp2_with fail
            refine (KY1 _ Nr2 Nr3 Np2 Np3).mono ?_
            rintro e w8 ⟨rfl, hB⟩
            replace T0 := T0.step hB; replace Xp := Xp.step hB; replace Xq := Xq.step hB; replace Xr := Xr.step hB
            replace Np1 := Np1.below hB; replace Np2 := Np2.below hB; replace Np3 := Np3.below hB; replace Nq1 := Nq1.below hB; replace Nq2 := Nq2.below hB; replace Nq3 := Nq3.below hB; replace Nr1 := Nr1.below hB; replace Nr2 := Nr2.below hB; replace Nr3 := Nr3.below hB
            clear hB kp0 kp1 kp2 kp3 kp4 kp5 kq0 kq1 kq2 kq3 kq4 kq5 kr0 kr1 kr2 kr3 kr4 kr5
            by_cases h4 : o4 < 0
            · have HO : Hid (J = 1) := by show _ = _; rw [HJ.out, if_neg (show ¬ o1 < 0 by have := K1.out; omega), if_neg (show ¬ o2 > 0 by have := K2.out; omega), if_neg (show ¬ a < a by have := K3.out; omega), if_pos (show o4 < 0 by omega)]
              have HB := T0.below
              clear T0 Xp Xq Xr Np1 Np2 Np3 Nq1 Nq2 Nq3 Nr1 Nr2 Nr3
              go_wp2
              go_ret
              exact ⟨by rw [HO.out]; rfl, HB⟩
            · have K4 : Hid (¬ o4 < 0) := h4
              have kp0 := Xp.c 0 rfl; have kp1 := Xp.c 1 rfl; have kp2 := Xp.c 2 rfl; have kp3 := Xp.c 3 rfl; have kp4 := Xp.c 4 rfl; have kp5 := Xp.c 5 rfl; have kq0 := Xq.c 0 rfl; have kq1 := Xq.c 1 rfl; have kq2 := Xq.c 2 rfl; have kq3 := Xq.c 3 rfl; have kq4 := Xq.c 4 rfl; have kq5 := Xq.c 5 rfl; have kr0 := Xr.c 0 rfl; have kr1 := Xr.c 1 rfl; have kr2 := Xr.c 2 rfl; have kr3 := Xr.c 3 rfl; have kr4 := Xr.c 4 rfl; have kr5 := Xr.c 5 rfl
              go_wp2_with fail
              refine (KY2 _ Nr2 Nr3 Nq2 Nq3).mono ?_
              rintro e w9 ⟨rfl, hB⟩
              replace T0 := T0.step hB; replace Xp := Xp.step hB; replace Xq := Xq.step hB; replace Xr := Xr.step hB
              replace Np1 := Np1.below hB; replace Np2 := Np2.below hB; replace Np3 := Np3.below hB; replace Nq1 := Nq1.below hB; replace Nq2 := Nq2.below hB; replace Nq3 := Nq3.below hB; replace Nr1 := Nr1.below hB; replace Nr2 := Nr2.below hB; replace Nr3 := Nr3.below hB
              clear hB kp0 kp1 kp2 kp3 kp4 kp5 kq0 kq1 kq2 kq3 kq4 kq5 kr0 kr1 kr2 kr3 kr4 kr5
              by_cases h5 : o5 > 0
              · have HO : Hid (J = -1) := by show _ = _; rw [HJ.out, if_neg (show ¬ o1 < 0 by have := K1.out; omega), if_neg (show ¬ o2 > 0 by have := K2.out; omega), if_neg (show ¬ a < a by have := K3.out; omega), if_neg (show ¬ o4 < 0 by have := K4.out; omega), if_pos (show o5 > 0 by omega)]
                have HB := T0.below
                clear T0 Xp Xq Xr Np1 Np2 Np3 Nq1 Nq2 Nq3 Nr1 Nr2 Nr3
                go_wp2
                go_ret
                exact ⟨by rw [HO.out]; rfl, HB⟩
              · have K5 : Hid (¬ o5 > 0) := h5
                have HO : Hid (J = 0) := by show _ = _; rw [HJ.out, if_neg (show ¬ o1 < 0 by have := K1.out; omega), if_neg (show ¬ o2 > 0 by have := K2.out; omega), if_neg (show ¬ a < a by have := K3.out; omega), if_neg (show ¬ o4 < 0 by have := K4.out; omega), if_neg (show ¬ o5 > 0 by have := K5.out; omega)]
                have HB := T0.below
                clear T0 Xp Xq Xr Np1 Np2 Np3 Nq1 Nq2 Nq3 Nr1 Nr2 Nr3
                go_wp2
                go_ret
                exact ⟨by rw [HO.out]; rfl, HB⟩
    · replace hp := Bool.eq_false_iff.2 hp
      have HO : Hid (overI a b c d x y z = 2) := by show _ = _; unfold overI; rw [hs, hp]; rfl
      rw [hs] at SO
      rw [hp] at PO
      clear hs hp i1 i2 i3 i4 F3
      go_enter Try.func45, Try.ntmps45
      go_wp2_with fail
      generalize ((w.alloc (.cells #[.int .i64 a, .int .i64 b, .int .i64 c, .int .i64 d] 56)).alloc (.cells #[.int .u64 (ww3 x), .int .u64 (ww2 x), .int .u64 (ww1 x), .int .u64 (ww0 x), .int .u64 (ww3 y), .int .u64 (ww2 y), .int .u64 (ww1 y), .int .u64 (ww0 y), .int .u64 (ww3 z), .int .u64 (ww2 z), .int .u64 (ww1 z), .int .u64 (ww0 z)] 30)) = W at *
      refine (SO _).mono ?_
      rintro e w1 ⟨rfl, hB⟩
      replace T0 := T0.step hB
      clear hB SO
      have Y0 : Blk _ (w.heap.size + 1) _ := T0.b 1 rfl; have q0 := Y0.c 0 rfl; have q1 := Y0.c 1 rfl; have q2 := Y0.c 2 rfl; have q3 := Y0.c 3 rfl; have q4 := Y0.c 4 rfl; have q5 := Y0.c 5 rfl; have q6 := Y0.c 6 rfl; have q7 := Y0.c 7 rfl; have q8 := Y0.c 8 rfl; have q9 := Y0.c 9 rfl; have q10 := Y0.c 10 rfl; have q11 := Y0.c 11 rfl; have ql := Y0.lt; clear Y0
      go_wp2_with fail
      refine (PO _).mono ?_
      rintro e w2 ⟨rfl, hB⟩
      have HB := (T0.step hB).below
      clear hB PO T0 q0 q1 q2 q3 q4 q5 q6 q7 q8 q9 q10 q11 ql
      go_wp2
      go_ret
      exact ⟨by rw [HO.out]; rfl, HB⟩
  · replace hs := Bool.eq_false_iff.2 hs
    have HO : Hid (overI a b c d x y z = 2) := by show _ = _; unfold overI; rw [hs]; rfl
    rw [hs] at SO
    clear hs PO F3
    go_enter Try.func45, Try.ntmps45
    go_wp2_with fail
    generalize ((w.alloc (.cells #[.int .i64 a, .int .i64 b, .int .i64 c, .int .i64 d] 56)).alloc (.cells #[.int .u64 (ww3 x), .int .u64 (ww2 x), .int .u64 (ww1 x), .int .u64 (ww0 x), .int .u64 (ww3 y), .int .u64 (ww2 y), .int .u64 (ww1 y), .int .u64 (ww0 y), .int .u64 (ww3 z), .int .u64 (ww2 z), .int .u64 (ww1 z), .int .u64 (ww0 z)] 30)) = W at *
    refine (SO _).mono ?_
    rintro e w1 ⟨rfl, hB⟩
    have HB := (T0.step hB).below
    clear hB SO T0
    go_wp2
    go_ret
    exact ⟨by rw [HO.out]; rfl, HB⟩
end Go.Proofs.Ytckbhihdhcgaeaa
