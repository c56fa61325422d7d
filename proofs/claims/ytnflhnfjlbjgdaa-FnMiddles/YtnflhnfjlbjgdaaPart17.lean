/- Part 17 of the walks that the proof leans on. -/
import Derived.Test.YtnflhnfjlbjgdaaPart12
import Derived.Test.YtnflhnfjlbjgdaaPart14
import Derived.Test.YtnflhnfjlbjgdaaPart16
import Derived.Test.YtnflhnfjlbjgdaaPart15
/- The middle of drawn points: the law. -/
namespace Go.Proofs.Ytnflhnfjlbjgdaa
open Go.RowKit
theorem bigc_any (ao : Option Addr) (n cap : Nat) (w : World) (z : Bool) (hz : decide (1048576 < n) = z) : Calls Try.prog 6 #[.slice ao n cap] w (BoolP z w) := by
  subst hz
  go_enter Try.func6, Try.ntmps6
  go_wp2
  go_ret
  exact ⟨by simp; try omega, Below.refl _ _⟩
theorem da_cells {N2 D2 : Int} {W : World} {ga : Nat} (Xa : Blk W ga [.int .u64 (ww3 N2), .int .u64 (ww2 N2), .int .u64 (ww1 N2), .int .u64 (ww0 N2), .int .u64 (ww3 D2), .int .u64 (ww2 D2), .int .u64 (ww1 D2), .int .u64 (ww0 D2)]) : (fun w' => w'.cell? ⟨ga, 0, none⟩ = some (.int .u64 (ww3 N2)) ∧ w'.cell? ⟨ga, 1, none⟩ = some (.int .u64 (ww2 N2)) ∧ w'.cell? ⟨ga, 2, none⟩ = some (.int .u64 (ww1 N2)) ∧ w'.cell? ⟨ga, 3, none⟩ = some (.int .u64 (ww0 N2)) ∧ w'.cell? ⟨ga, 4, none⟩ = some (.int .u64 (ww3 D2)) ∧ w'.cell? ⟨ga, 5, none⟩ = some (.int .u64 (ww2 D2)) ∧ w'.cell? ⟨ga, 6, none⟩ = some (.int .u64 (ww1 D2)) ∧ w'.cell? ⟨ga, 7, none⟩ = some (.int .u64 (ww0 D2))) W := ⟨Xa.c 0 rfl, Xa.c 1 rfl, Xa.c 2 rfl, Xa.c 3 rfl, Xa.c 4 rfl, Xa.c 5 rfl, Xa.c 6 rfl, Xa.c 7 rfl⟩
set_option maxRecDepth 100000 in
set_option maxHeartbeats 8000000 in
theorem lawMiddles_any (ao : Option Addr) (n cap : Nat) (cs : List Int) (w : World) (h : n ≤ 1048576 → Code w ao n cs) : Calls Try.prog 4 #[.slice ao n cap] w (BoolP true w) := by
  by_cases hn : 1048576 < n
  · go_enter Try.func4, Try.ntmps4
    go_wp2_with fail
    refine (bigc_any ao n cap _ true (by simpa using hn)).mono ?_
    rintro e w1 ⟨rfl, hB⟩
    clear h
    go_wp2
    go_ret
    exact ⟨rfl, hB⟩
  · have hc := h (by omega)
    clear h
    go_enter Try.func4, Try.ntmps4
    go_wp2_with fail
    refine (bigc_any ao n cap _ false (by simpa using hn)).mono ?_
    rintro e w1 ⟨rfl, hB⟩
    replace hc := hc.below hB
    have HB := hB
    clear hB
    go_wp2_with fail
    refine (drawMiddle_any ao n cap cs _ hc).mono ?_
    rintro e w2 ⟨x, y, z, u, v, t, rfl, tx, ty, tz, tu, tv, tt, hB⟩
    replace HB := HB.trans (hB.mono HB.size)
    clear hB hc
    have Xp : Blk ((w2.alloc (.cells #[.int .u64 (ww3 x), .int .u64 (ww2 x), .int .u64 (ww1 x), .int .u64 (ww0 x), .int .u64 (ww3 y), .int .u64 (ww2 y), .int .u64 (ww1 y), .int .u64 (ww0 y), .int .u64 (ww3 z), .int .u64 (ww2 z), .int .u64 (ww1 z), .int .u64 (ww0 z)] 28)).alloc (.cells #[.int .u64 (ww3 u), .int .u64 (ww2 u), .int .u64 (ww1 u), .int .u64 (ww0 u), .int .u64 (ww3 v), .int .u64 (ww2 v), .int .u64 (ww1 v), .int .u64 (ww0 v), .int .u64 (ww3 t), .int .u64 (ww2 t), .int .u64 (ww1 t), .int .u64 (ww0 t)] 28)) w2.heap.size [.int .u64 (ww3 x), .int .u64 (ww2 x), .int .u64 (ww1 x), .int .u64 (ww0 x), .int .u64 (ww3 y), .int .u64 (ww2 y), .int .u64 (ww1 y), .int .u64 (ww0 y), .int .u64 (ww3 z), .int .u64 (ww2 z), .int .u64 (ww1 z), .int .u64 (ww0 z)] := (Blk.new w2 _ _ rfl).alloc _
    have Xq : Blk ((w2.alloc (.cells #[.int .u64 (ww3 x), .int .u64 (ww2 x), .int .u64 (ww1 x), .int .u64 (ww0 x), .int .u64 (ww3 y), .int .u64 (ww2 y), .int .u64 (ww1 y), .int .u64 (ww0 y), .int .u64 (ww3 z), .int .u64 (ww2 z), .int .u64 (ww1 z), .int .u64 (ww0 z)] 28)).alloc (.cells #[.int .u64 (ww3 u), .int .u64 (ww2 u), .int .u64 (ww1 u), .int .u64 (ww0 u), .int .u64 (ww3 v), .int .u64 (ww2 v), .int .u64 (ww1 v), .int .u64 (ww0 v), .int .u64 (ww3 t), .int .u64 (ww2 t), .int .u64 (ww1 t), .int .u64 (ww0 t)] 28)) (w2.heap.size + 1) [.int .u64 (ww3 u), .int .u64 (ww2 u), .int .u64 (ww1 u), .int .u64 (ww0 u), .int .u64 (ww3 v), .int .u64 (ww2 v), .int .u64 (ww1 v), .int .u64 (ww0 v), .int .u64 (ww3 t), .int .u64 (ww2 t), .int .u64 (ww1 t), .int .u64 (ww0 t)] := Blk.new (w2.alloc (.cells #[.int .u64 (ww3 x), .int .u64 (ww2 x), .int .u64 (ww1 x), .int .u64 (ww0 x), .int .u64 (ww3 y), .int .u64 (ww2 y), .int .u64 (ww1 y), .int .u64 (ww0 y), .int .u64 (ww3 z), .int .u64 (ww2 z), .int .u64 (ww1 z), .int .u64 (ww0 z)] 28)) _ _ (by simp)
    replace HB := (HB.alloc HB.size (.cells #[.int .u64 (ww3 x), .int .u64 (ww2 x), .int .u64 (ww1 x), .int .u64 (ww0 x), .int .u64 (ww3 y), .int .u64 (ww2 y), .int .u64 (ww1 y), .int .u64 (ww0 y), .int .u64 (ww3 z), .int .u64 (ww2 z), .int .u64 (ww1 z), .int .u64 (ww0 z)] 28)).alloc (HB.alloc HB.size (.cells #[.int .u64 (ww3 x), .int .u64 (ww2 x), .int .u64 (ww1 x), .int .u64 (ww0 x), .int .u64 (ww3 y), .int .u64 (ww2 y), .int .u64 (ww1 y), .int .u64 (ww0 y), .int .u64 (ww3 z), .int .u64 (ww2 z), .int .u64 (ww1 z), .int .u64 (ww0 z)] 28)).size (.cells #[.int .u64 (ww3 u), .int .u64 (ww2 u), .int .u64 (ww1 u), .int .u64 (ww0 u), .int .u64 (ww3 v), .int .u64 (ww2 v), .int .u64 (ww1 v), .int .u64 (ww0 v), .int .u64 (ww3 t), .int .u64 (ww2 t), .int .u64 (ww1 t), .int .u64 (ww0 t)] 28)
    have MI := implMiddle_det x y z u v t tx ty tz tu tv tt
    have MS := specMiddle_det x y z u v t tx ty tz tu tv tt
    rcases mid_cases x y z u v t with hf | ⟨h1, h2, a, b, c, g, hm, hg, e1, e2, e3, h3⟩
    · rw [hf, ← PV0] at MI MS
      have EQ := eqPV 0 0 0 0 0 0 (by decide) (by decide) (by decide) (by decide) (by decide) (by decide)
      simp only [decide_true, Bool.and_self] at EQ
      have p0 := Xp.c 0 rfl; have p1 := Xp.c 1 rfl; have p2 := Xp.c 2 rfl; have p3 := Xp.c 3 rfl; have p4 := Xp.c 4 rfl; have p5 := Xp.c 5 rfl; have p6 := Xp.c 6 rfl; have p7 := Xp.c 7 rfl; have p8 := Xp.c 8 rfl; have p9 := Xp.c 9 rfl; have p10 := Xp.c 10 rfl; have p11 := Xp.c 11 rfl; have q0 := Xq.c 0 rfl; have q1 := Xq.c 1 rfl; have q2 := Xq.c 2 rfl; have q3 := Xq.c 3 rfl; have q4 := Xq.c 4 rfl; have q5 := Xq.c 5 rfl; have q6 := Xq.c 6 rfl; have q7 := Xq.c 7 rfl; have q8 := Xq.c 8 rfl; have q9 := Xq.c 9 rfl; have q10 := Xq.c 10 rfl; have q11 := Xq.c 11 rfl
      go_wp2_with fail
      refine (MI _).mono ?_
      rintro e w3 ⟨rfl, hB⟩
      replace Xp := (Xp.step hB).alloc (.cells #[.int .u64 (ww3 0), .int .u64 (ww2 0), .int .u64 (ww1 0), .int .u64 (ww0 0), .int .u64 (ww3 0), .int .u64 (ww2 0), .int .u64 (ww1 0), .int .u64 (ww0 0), .int .u64 (ww3 0), .int .u64 (ww2 0), .int .u64 (ww1 0), .int .u64 (ww0 0)] 28); replace Xq := (Xq.step hB).alloc (.cells #[.int .u64 (ww3 0), .int .u64 (ww2 0), .int .u64 (ww1 0), .int .u64 (ww0 0), .int .u64 (ww3 0), .int .u64 (ww2 0), .int .u64 (ww1 0), .int .u64 (ww0 0), .int .u64 (ww3 0), .int .u64 (ww2 0), .int .u64 (ww1 0), .int .u64 (ww0 0)] 28)
      have Xm := Blk.new w3 [.int .u64 (ww3 0), .int .u64 (ww2 0), .int .u64 (ww1 0), .int .u64 (ww0 0), .int .u64 (ww3 0), .int .u64 (ww2 0), .int .u64 (ww1 0), .int .u64 (ww0 0), .int .u64 (ww3 0), .int .u64 (ww2 0), .int .u64 (ww1 0), .int .u64 (ww0 0)] 28 rfl
      replace HB := (HB.trans (hB.mono HB.size)).alloc (HB.trans (hB.mono HB.size)).size (.cells #[.int .u64 (ww3 0), .int .u64 (ww2 0), .int .u64 (ww1 0), .int .u64 (ww0 0), .int .u64 (ww3 0), .int .u64 (ww2 0), .int .u64 (ww1 0), .int .u64 (ww0 0), .int .u64 (ww3 0), .int .u64 (ww2 0), .int .u64 (ww1 0), .int .u64 (ww0 0)] 28)
      clear hB p0 p1 p2 p3 p4 p5 p6 p7 p8 p9 p10 p11 q0 q1 q2 q3 q4 q5 q6 q7 q8 q9 q10 q11
      have p0 := Xp.c 0 rfl; have p1 := Xp.c 1 rfl; have p2 := Xp.c 2 rfl; have p3 := Xp.c 3 rfl; have p4 := Xp.c 4 rfl; have p5 := Xp.c 5 rfl; have p6 := Xp.c 6 rfl; have p7 := Xp.c 7 rfl; have p8 := Xp.c 8 rfl; have p9 := Xp.c 9 rfl; have p10 := Xp.c 10 rfl; have p11 := Xp.c 11 rfl; have q0 := Xq.c 0 rfl; have q1 := Xq.c 1 rfl; have q2 := Xq.c 2 rfl; have q3 := Xq.c 3 rfl; have q4 := Xq.c 4 rfl; have q5 := Xq.c 5 rfl; have q6 := Xq.c 6 rfl; have q7 := Xq.c 7 rfl; have q8 := Xq.c 8 rfl; have q9 := Xq.c 9 rfl; have q10 := Xq.c 10 rfl; have q11 := Xq.c 11 rfl
      go_wp2_with fail
      refine (MS _).mono ?_
      rintro e w4 ⟨rfl, hB⟩
      replace Xm := (Xm.step hB).alloc (.cells #[.int .u64 (ww3 0), .int .u64 (ww2 0), .int .u64 (ww1 0), .int .u64 (ww0 0), .int .u64 (ww3 0), .int .u64 (ww2 0), .int .u64 (ww1 0), .int .u64 (ww0 0), .int .u64 (ww3 0), .int .u64 (ww2 0), .int .u64 (ww1 0), .int .u64 (ww0 0)] 28)
      replace HB := (HB.trans (hB.mono HB.size)).alloc (HB.trans (hB.mono HB.size)).size (.cells #[.int .u64 (ww3 0), .int .u64 (ww2 0), .int .u64 (ww1 0), .int .u64 (ww0 0), .int .u64 (ww3 0), .int .u64 (ww2 0), .int .u64 (ww1 0), .int .u64 (ww0 0), .int .u64 (ww3 0), .int .u64 (ww2 0), .int .u64 (ww1 0), .int .u64 (ww0 0)] 28)
      clear hB p0 p1 p2 p3 p4 p5 p6 p7 p8 p9 p10 p11 q0 q1 q2 q3 q4 q5 q6 q7 q8 q9 q10 q11 Xp Xq MI MS
      have m0 := Xm.c 0 rfl; have m1 := Xm.c 1 rfl; have m2 := Xm.c 2 rfl; have m3 := Xm.c 3 rfl; have m4 := Xm.c 4 rfl; have m5 := Xm.c 5 rfl; have m6 := Xm.c 6 rfl; have m7 := Xm.c 7 rfl; have m8 := Xm.c 8 rfl; have m9 := Xm.c 9 rfl; have m10 := Xm.c 10 rfl; have m11 := Xm.c 11 rfl
      go_wp2
      go_ret
      exact ⟨rfl, HB⟩
    · rw [hm] at MI MS
      obtain ⟨pz, -⟩ := ptB_gcd h1
      obtain ⟨pt, -⟩ := ptB_gcd h2
      have hzt := Int.mul_pos pz pt
      obtain ⟨-, sa, sb, sc⟩ := ptB_small h3
      have ta := told_small sa; have tb := told_small sb; have tc := told_small sc
      have EM := eqPV a b c a b c ta tb tc ta tb tc
      simp only [decide_true, Bool.and_self] at EM
      have EQ := eqPV x y z u v t tx ty tz tu tv tt
      obtain ⟨b1, b2, b3, b4⟩ := mid_between h1 h2 h3 hg e1 e2 e3
      obtain ⟨d1, d2⟩ := mid_dist h1 h2 h3 hg e1 e2 e3
      have BW1 := implBetween_det x y z u v t a b c tx ty tz tu tv tt ta tb tc
      have BW2 := implBetween_det x y z u v t x y z tx ty tz tu tv tt tx ty tz
      have OR := implOrient_det x y z u v t a b c tx ty tz tu tv tt ta tb tc
      have BW3 := implBetween_det x y z a b c u v t tx ty tz ta tb tc tu tv tt
      have DI1 := implDist2_det x y z a b c tx ty tz ta tb tc
      have DI2 := implDist2_det a b c u v t ta tb tc tu tv tt
      have DI3 := implDist2_det x y z u v t tx ty tz tu tv tt
      rw [b1] at BW1
      rw [b2] at BW2
      rw [b3] at OR
      rw [b4] at BW3
      rw [d1] at DI1
      rw [d2] at DI2
      have d3 : distV x y z u v t = ratV ((x * t - z * u) * (x * t - z * u) + (y * t - z * v) * (y * t - z * v)) (z * t * (z * t)) := by unfold distV; rw [h1, h2, if_pos (show (true && true) = true from rfl)]
      rw [d3] at DI3
      have mf := mul_four (s := (x * t - z * u) * (x * t - z * u) + (y * t - z * v) * (y * t - z * v)) hzt
      generalize hS : (x * t - z * u) * (x * t - z * u) + (y * t - z * v) * (y * t - z * v) = SS at *
      generalize z * t = kk at *
      obtain ⟨N2, D2, t2, hv2, tn2, td2, hl2⟩ := ratV_rv SS (2 * kk * (2 * kk))
      obtain ⟨N4, D4, t4, hv4, tn4, td4, -⟩ := ratV_rv SS (kk * kk)
      rw [hv2] at DI1 DI2
      rw [hv4] at DI3
      have W1 := fun w => implOf_det 4 w (by decide) (by decide)
      have W2 := fun w => implOf_det 1 w (by decide) (by decide)
      have RM := implRatioMul_det N2 D2 4 1 tn2 td2 (by decide) (by decide)
      have E2 := eqRV N2 D2 tn2 td2
      have E4 := eqRV N4 D4 tn4 td4
      obtain ⟨N5, D5, t5, hv5, hsame⟩ : ∃ N5 D5 t5, rat2V N2 D2 4 1 (N2 * 4) (D2 * 1) = .tuple #[RV N5 D5, .bool t5] ∧ (t2 = true → N5 = N4 ∧ D5 = D4 ∧ t5 = t4) := by
        cases t2
        · obtain ⟨N, D, t, hh, -, -⟩ := rat2V_rv N2 D2 4 1 (N2 * 4) (D2 * 1)
          exact ⟨N, D, t, hh, fun h => by cases h⟩
        · obtain ⟨-, rfl, rfl⟩ := hl2 rfl
          exact ⟨N4, D4, t4, mf.trans hv4, fun _ => ⟨rfl, rfl, rfl⟩⟩
      rw [hv5] at RM
      generalize (decide (x = u) && decide (y = v) && decide (z = t)) = eb at *
      clear b1 b2 b3 b4 d1 d2 d3 mf hS hv2 hv4 hv5 hl2 tn2 td2 tn4 td4 hm h1 h2 h3 hg e1 e2 e3 pz pt hzt sa sb sc tx ty tz tu tv tt ta tb tc
      have p0 := Xp.c 0 rfl; have p1 := Xp.c 1 rfl; have p2 := Xp.c 2 rfl; have p3 := Xp.c 3 rfl; have p4 := Xp.c 4 rfl; have p5 := Xp.c 5 rfl; have p6 := Xp.c 6 rfl; have p7 := Xp.c 7 rfl; have p8 := Xp.c 8 rfl; have p9 := Xp.c 9 rfl; have p10 := Xp.c 10 rfl; have p11 := Xp.c 11 rfl; have q0 := Xq.c 0 rfl; have q1 := Xq.c 1 rfl; have q2 := Xq.c 2 rfl; have q3 := Xq.c 3 rfl; have q4 := Xq.c 4 rfl; have q5 := Xq.c 5 rfl; have q6 := Xq.c 6 rfl; have q7 := Xq.c 7 rfl; have q8 := Xq.c 8 rfl; have q9 := Xq.c 9 rfl; have q10 := Xq.c 10 rfl; have q11 := Xq.c 11 rfl
      go_wp2_with fail
      refine (MI _).mono ?_
      rintro e w3 ⟨rfl, hB⟩
      replace Xp := (Xp.step hB).alloc (.cells #[.int .u64 (ww3 a), .int .u64 (ww2 a), .int .u64 (ww1 a), .int .u64 (ww0 a), .int .u64 (ww3 b), .int .u64 (ww2 b), .int .u64 (ww1 b), .int .u64 (ww0 b), .int .u64 (ww3 c), .int .u64 (ww2 c), .int .u64 (ww1 c), .int .u64 (ww0 c)] 28); replace Xq := (Xq.step hB).alloc (.cells #[.int .u64 (ww3 a), .int .u64 (ww2 a), .int .u64 (ww1 a), .int .u64 (ww0 a), .int .u64 (ww3 b), .int .u64 (ww2 b), .int .u64 (ww1 b), .int .u64 (ww0 b), .int .u64 (ww3 c), .int .u64 (ww2 c), .int .u64 (ww1 c), .int .u64 (ww0 c)] 28)
      have Xm := Blk.new w3 [.int .u64 (ww3 a), .int .u64 (ww2 a), .int .u64 (ww1 a), .int .u64 (ww0 a), .int .u64 (ww3 b), .int .u64 (ww2 b), .int .u64 (ww1 b), .int .u64 (ww0 b), .int .u64 (ww3 c), .int .u64 (ww2 c), .int .u64 (ww1 c), .int .u64 (ww0 c)] 28 rfl
      replace HB := (HB.trans (hB.mono HB.size)).alloc (HB.trans (hB.mono HB.size)).size (.cells #[.int .u64 (ww3 a), .int .u64 (ww2 a), .int .u64 (ww1 a), .int .u64 (ww0 a), .int .u64 (ww3 b), .int .u64 (ww2 b), .int .u64 (ww1 b), .int .u64 (ww0 b), .int .u64 (ww3 c), .int .u64 (ww2 c), .int .u64 (ww1 c), .int .u64 (ww0 c)] 28)
      clear hB p0 p1 p2 p3 p4 p5 p6 p7 p8 p9 p10 p11 q0 q1 q2 q3 q4 q5 q6 q7 q8 q9 q10 q11 MI
      have p0 := Xp.c 0 rfl; have p1 := Xp.c 1 rfl; have p2 := Xp.c 2 rfl; have p3 := Xp.c 3 rfl; have p4 := Xp.c 4 rfl; have p5 := Xp.c 5 rfl; have p6 := Xp.c 6 rfl; have p7 := Xp.c 7 rfl; have p8 := Xp.c 8 rfl; have p9 := Xp.c 9 rfl; have p10 := Xp.c 10 rfl; have p11 := Xp.c 11 rfl; have q0 := Xq.c 0 rfl; have q1 := Xq.c 1 rfl; have q2 := Xq.c 2 rfl; have q3 := Xq.c 3 rfl; have q4 := Xq.c 4 rfl; have q5 := Xq.c 5 rfl; have q6 := Xq.c 6 rfl; have q7 := Xq.c 7 rfl; have q8 := Xq.c 8 rfl; have q9 := Xq.c 9 rfl; have q10 := Xq.c 10 rfl; have q11 := Xq.c 11 rfl
      go_wp2_with fail
      generalize w3.heap.size = gm at *
      refine (MS _).mono ?_
      rintro e w4 ⟨rfl, hB⟩
      replace Xp := (Xp.step hB).alloc (.cells #[.int .u64 (ww3 a), .int .u64 (ww2 a), .int .u64 (ww1 a), .int .u64 (ww0 a), .int .u64 (ww3 b), .int .u64 (ww2 b), .int .u64 (ww1 b), .int .u64 (ww0 b), .int .u64 (ww3 c), .int .u64 (ww2 c), .int .u64 (ww1 c), .int .u64 (ww0 c)] 28); replace Xq := (Xq.step hB).alloc (.cells #[.int .u64 (ww3 a), .int .u64 (ww2 a), .int .u64 (ww1 a), .int .u64 (ww0 a), .int .u64 (ww3 b), .int .u64 (ww2 b), .int .u64 (ww1 b), .int .u64 (ww0 b), .int .u64 (ww3 c), .int .u64 (ww2 c), .int .u64 (ww1 c), .int .u64 (ww0 c)] 28); replace Xm := (Xm.step hB).alloc (.cells #[.int .u64 (ww3 a), .int .u64 (ww2 a), .int .u64 (ww1 a), .int .u64 (ww0 a), .int .u64 (ww3 b), .int .u64 (ww2 b), .int .u64 (ww1 b), .int .u64 (ww0 b), .int .u64 (ww3 c), .int .u64 (ww2 c), .int .u64 (ww1 c), .int .u64 (ww0 c)] 28)
      replace HB := (HB.trans (hB.mono HB.size)).alloc (HB.trans (hB.mono HB.size)).size (.cells #[.int .u64 (ww3 a), .int .u64 (ww2 a), .int .u64 (ww1 a), .int .u64 (ww0 a), .int .u64 (ww3 b), .int .u64 (ww2 b), .int .u64 (ww1 b), .int .u64 (ww0 b), .int .u64 (ww3 c), .int .u64 (ww2 c), .int .u64 (ww1 c), .int .u64 (ww0 c)] 28)
      clear hB p0 p1 p2 p3 p4 p5 p6 p7 p8 p9 p10 p11 q0 q1 q2 q3 q4 q5 q6 q7 q8 q9 q10 q11 MS
      have p0 := Xp.c 0 rfl; have p1 := Xp.c 1 rfl; have p2 := Xp.c 2 rfl; have p3 := Xp.c 3 rfl; have p4 := Xp.c 4 rfl; have p5 := Xp.c 5 rfl; have p6 := Xp.c 6 rfl; have p7 := Xp.c 7 rfl; have p8 := Xp.c 8 rfl; have p9 := Xp.c 9 rfl; have p10 := Xp.c 10 rfl; have p11 := Xp.c 11 rfl; have q0 := Xq.c 0 rfl; have q1 := Xq.c 1 rfl; have q2 := Xq.c 2 rfl; have q3 := Xq.c 3 rfl; have q4 := Xq.c 4 rfl; have q5 := Xq.c 5 rfl; have q6 := Xq.c 6 rfl; have q7 := Xq.c 7 rfl; have q8 := Xq.c 8 rfl; have q9 := Xq.c 9 rfl; have q10 := Xq.c 10 rfl; have q11 := Xq.c 11 rfl; have m0 := Xm.c 0 rfl; have m1 := Xm.c 1 rfl; have m2 := Xm.c 2 rfl; have m3 := Xm.c 3 rfl; have m4 := Xm.c 4 rfl; have m5 := Xm.c 5 rfl; have m6 := Xm.c 6 rfl; have m7 := Xm.c 7 rfl; have m8 := Xm.c 8 rfl; have m9 := Xm.c 9 rfl; have m10 := Xm.c 10 rfl; have m11 := Xm.c 11 rfl
      go_upto_region 10 with fail
      clear p0 p1 p2 p3 p4 p5 p6 p7 p8 p9 p10 p11 q0 q1 q2 q3 q4 q5 q6 q7 q8 q9 q10 q11 m0 m1 m2 m3 m4 m5 m6 m7 m8 m9 m10 m11
      generalize w4.alloc (.cells #[.int .u64 (ww3 a), .int .u64 (ww2 a), .int .u64 (ww1 a), .int .u64 (ww0 a), .int .u64 (ww3 b), .int .u64 (ww2 b), .int .u64 (ww1 b), .int .u64 (ww0 b), .int .u64 (ww3 c), .int .u64 (ww2 c), .int .u64 (ww1 c), .int .u64 (ww0 c)] 28) = W4' at *
      generalize w2.heap.size + 1 = gq at *
      generalize w2.heap.size = gp at *
      have tok1 : True := trivial
      have tok2 : True := trivial
      go_cut [74] (fun p wx => p = .bool false ∧ Below w.heap.size w wx ∧ Blk wx gp [.int .u64 (ww3 x), .int .u64 (ww2 x), .int .u64 (ww1 x), .int .u64 (ww0 x), .int .u64 (ww3 y), .int .u64 (ww2 y), .int .u64 (ww1 y), .int .u64 (ww0 y), .int .u64 (ww3 z), .int .u64 (ww2 z), .int .u64 (ww1 z), .int .u64 (ww0 z)] ∧ Blk wx gq [.int .u64 (ww3 u), .int .u64 (ww2 u), .int .u64 (ww1 u), .int .u64 (ww0 u), .int .u64 (ww3 v), .int .u64 (ww2 v), .int .u64 (ww1 v), .int .u64 (ww0 v), .int .u64 (ww3 t), .int .u64 (ww2 t), .int .u64 (ww1 t), .int .u64 (ww0 t)] ∧ Blk wx gm [.int .u64 (ww3 a), .int .u64 (ww2 a), .int .u64 (ww1 a), .int .u64 (ww0 a), .int .u64 (ww3 b), .int .u64 (ww2 b), .int .u64 (ww1 b), .int .u64 (ww0 b), .int .u64 (ww3 c), .int .u64 (ww2 c), .int .u64 (ww1 c), .int .u64 (ww0 c)])
      case first =>
        go_region_held3 (fun w' => w'.cell? ⟨gp, 0, none⟩ = some (.int .u64 (ww3 x)) ∧ w'.cell? ⟨gp, 1, none⟩ = some (.int .u64 (ww2 x)) ∧ w'.cell? ⟨gp, 2, none⟩ = some (.int .u64 (ww1 x)) ∧ w'.cell? ⟨gp, 3, none⟩ = some (.int .u64 (ww0 x)) ∧ w'.cell? ⟨gp, 4, none⟩ = some (.int .u64 (ww3 y)) ∧ w'.cell? ⟨gp, 5, none⟩ = some (.int .u64 (ww2 y)) ∧ w'.cell? ⟨gp, 6, none⟩ = some (.int .u64 (ww1 y)) ∧ w'.cell? ⟨gp, 7, none⟩ = some (.int .u64 (ww0 y)) ∧ w'.cell? ⟨gp, 8, none⟩ = some (.int .u64 (ww3 z)) ∧ w'.cell? ⟨gp, 9, none⟩ = some (.int .u64 (ww2 z)) ∧ w'.cell? ⟨gp, 10, none⟩ = some (.int .u64 (ww1 z)) ∧ w'.cell? ⟨gp, 11, none⟩ = some (.int .u64 (ww0 z)) ∧ w'.cell? ⟨gq, 0, none⟩ = some (.int .u64 (ww3 u)) ∧ w'.cell? ⟨gq, 1, none⟩ = some (.int .u64 (ww2 u)) ∧ w'.cell? ⟨gq, 2, none⟩ = some (.int .u64 (ww1 u)) ∧ w'.cell? ⟨gq, 3, none⟩ = some (.int .u64 (ww0 u)) ∧ w'.cell? ⟨gq, 4, none⟩ = some (.int .u64 (ww3 v)) ∧ w'.cell? ⟨gq, 5, none⟩ = some (.int .u64 (ww2 v)) ∧ w'.cell? ⟨gq, 6, none⟩ = some (.int .u64 (ww1 v)) ∧ w'.cell? ⟨gq, 7, none⟩ = some (.int .u64 (ww0 v)) ∧ w'.cell? ⟨gq, 8, none⟩ = some (.int .u64 (ww3 t)) ∧ w'.cell? ⟨gq, 9, none⟩ = some (.int .u64 (ww2 t)) ∧ w'.cell? ⟨gq, 10, none⟩ = some (.int .u64 (ww1 t)) ∧ w'.cell? ⟨gq, 11, none⟩ = some (.int .u64 (ww0 t)) ∧ w'.cell? ⟨gm, 0, none⟩ = some (.int .u64 (ww3 a)) ∧ w'.cell? ⟨gm, 1, none⟩ = some (.int .u64 (ww2 a)) ∧ w'.cell? ⟨gm, 2, none⟩ = some (.int .u64 (ww1 a)) ∧ w'.cell? ⟨gm, 3, none⟩ = some (.int .u64 (ww0 a)) ∧ w'.cell? ⟨gm, 4, none⟩ = some (.int .u64 (ww3 b)) ∧ w'.cell? ⟨gm, 5, none⟩ = some (.int .u64 (ww2 b)) ∧ w'.cell? ⟨gm, 6, none⟩ = some (.int .u64 (ww1 b)) ∧ w'.cell? ⟨gm, 7, none⟩ = some (.int .u64 (ww0 b)) ∧ w'.cell? ⟨gm, 8, none⟩ = some (.int .u64 (ww3 c)) ∧ w'.cell? ⟨gm, 9, none⟩ = some (.int .u64 (ww2 c)) ∧ w'.cell? ⟨gm, 10, none⟩ = some (.int .u64 (ww1 c)) ∧ w'.cell? ⟨gm, 11, none⟩ = some (.int .u64 (ww0 c))) (first | (with_reducible exact dk3_cells Xp Xq Xm) | (with_reducible exact dk3_cells Xp.drew Xq.drew Xm.drew))
          (first
            | (go_at_call 13; have _t := tok1; refine (BW1 _).mono ?_; rintro e k1 ⟨rfl, hB⟩; (first | (replace Xp := Xp.step hB; replace Xq := Xq.step hB; replace Xm := Xm.step hB; replace HB := HB.trans (hB.mono HB.size)) | (replace Xp := Xp.drew.step hB; replace Xq := Xq.drew.step hB; replace Xm := Xm.drew.step hB; replace HB := HB.drew.trans (hB.mono HB.drew.size))); clear hB; clear tok1 _t)
            | (go_at_call 13; have _t := tok2; refine (BW2 _).mono ?_; rintro e k2 ⟨rfl, hB⟩; (first | (replace Xp := Xp.step hB; replace Xq := Xq.step hB; replace Xm := Xm.step hB; replace HB := HB.trans (hB.mono HB.size)) | (replace Xp := Xp.drew.step hB; replace Xq := Xq.drew.step hB; replace Xm := Xm.drew.step hB; replace HB := HB.drew.trans (hB.mono HB.drew.size))); clear hB; clear tok2 _t)
            | (go_at_call 8; refine (OR _).mono ?_; rintro e k3 ⟨rfl, hB⟩; (first | (replace Xp := Xp.step hB; replace Xq := Xq.step hB; replace Xm := Xm.step hB; replace HB := HB.trans (hB.mono HB.size)) | (replace Xp := Xp.drew.step hB; replace Xq := Xq.drew.step hB; replace Xm := Xm.drew.step hB; replace HB := HB.drew.trans (hB.mono HB.drew.size))); clear hB)
            | (go_at_call 13; refine (BW3 _).mono ?_; rintro e k4 ⟨rfl, hB⟩; (first | (replace Xp := Xp.step hB; replace Xq := Xq.step hB; replace Xm := Xm.step hB; replace HB := HB.trans (hB.mono HB.size)) | (replace Xp := Xp.drew.step hB; replace Xq := Xq.drew.step hB; replace Xm := Xm.drew.step hB; replace HB := HB.drew.trans (hB.mono HB.drew.size))); clear hB))
        all_goals go_wp2_with fail
        all_goals go_meet
        all_goals first | exact ⟨by cases eb <;> rfl, HB, Xp, Xq, Xm⟩ | exact ⟨by cases eb <;> rfl, HB.drew, Xp.drew, Xq.drew, Xm.drew⟩ | exact ⟨by simp, HB, Xp, Xq, Xm⟩
      case rest =>
        clear HB Xp Xq Xm BW1 BW2 BW3 OR tok1 tok2
        obtain ⟨rfl, HB, Xp, Xq, Xm⟩ := hcut
        have p0 := Xp.c 0 rfl; have p1 := Xp.c 1 rfl; have p2 := Xp.c 2 rfl; have p3 := Xp.c 3 rfl; have p4 := Xp.c 4 rfl; have p5 := Xp.c 5 rfl; have p6 := Xp.c 6 rfl; have p7 := Xp.c 7 rfl; have p8 := Xp.c 8 rfl; have p9 := Xp.c 9 rfl; have p10 := Xp.c 10 rfl; have p11 := Xp.c 11 rfl; have q0 := Xq.c 0 rfl; have q1 := Xq.c 1 rfl; have q2 := Xq.c 2 rfl; have q3 := Xq.c 3 rfl; have q4 := Xq.c 4 rfl; have q5 := Xq.c 5 rfl; have q6 := Xq.c 6 rfl; have q7 := Xq.c 7 rfl; have q8 := Xq.c 8 rfl; have q9 := Xq.c 9 rfl; have q10 := Xq.c 10 rfl; have q11 := Xq.c 11 rfl; have m0 := Xm.c 0 rfl; have m1 := Xm.c 1 rfl; have m2 := Xm.c 2 rfl; have m3 := Xm.c 3 rfl; have m4 := Xm.c 4 rfl; have m5 := Xm.c 5 rfl; have m6 := Xm.c 6 rfl; have m7 := Xm.c 7 rfl; have m8 := Xm.c 8 rfl; have m9 := Xm.c 9 rfl; have m10 := Xm.c 10 rfl; have m11 := Xm.c 11 rfl
        rename_i hk'
        refine hk' _ _ ?_
        go_wp2_with fail
        refine (DI1 _).mono ?_
        rintro e u1 ⟨rfl, hB⟩
        replace Xp := (Xp.step hB).alloc (.cells #[.int .u64 (ww3 N2), .int .u64 (ww2 N2), .int .u64 (ww1 N2), .int .u64 (ww0 N2), .int .u64 (ww3 D2), .int .u64 (ww2 D2), .int .u64 (ww1 D2), .int .u64 (ww0 D2)] 38); replace Xq := (Xq.step hB).alloc (.cells #[.int .u64 (ww3 N2), .int .u64 (ww2 N2), .int .u64 (ww1 N2), .int .u64 (ww0 N2), .int .u64 (ww3 D2), .int .u64 (ww2 D2), .int .u64 (ww1 D2), .int .u64 (ww0 D2)] 38); replace Xm := (Xm.step hB).alloc (.cells #[.int .u64 (ww3 N2), .int .u64 (ww2 N2), .int .u64 (ww1 N2), .int .u64 (ww0 N2), .int .u64 (ww3 D2), .int .u64 (ww2 D2), .int .u64 (ww1 D2), .int .u64 (ww0 D2)] 38)
        have Xa := Blk.new u1 [.int .u64 (ww3 N2), .int .u64 (ww2 N2), .int .u64 (ww1 N2), .int .u64 (ww0 N2), .int .u64 (ww3 D2), .int .u64 (ww2 D2), .int .u64 (ww1 D2), .int .u64 (ww0 D2)] 38 rfl
        replace HB := (HB.trans (hB.mono HB.size)).alloc (HB.trans (hB.mono HB.size)).size (.cells #[.int .u64 (ww3 N2), .int .u64 (ww2 N2), .int .u64 (ww1 N2), .int .u64 (ww0 N2), .int .u64 (ww3 D2), .int .u64 (ww2 D2), .int .u64 (ww1 D2), .int .u64 (ww0 D2)] 38)
        clear hB p0 p1 p2 p3 p4 p5 p6 p7 p8 p9 p10 p11 q0 q1 q2 q3 q4 q5 q6 q7 q8 q9 q10 q11 m0 m1 m2 m3 m4 m5 m6 m7 m8 m9 m10 m11 hk'
        have p0 := Xp.c 0 rfl; have p1 := Xp.c 1 rfl; have p2 := Xp.c 2 rfl; have p3 := Xp.c 3 rfl; have p4 := Xp.c 4 rfl; have p5 := Xp.c 5 rfl; have p6 := Xp.c 6 rfl; have p7 := Xp.c 7 rfl; have p8 := Xp.c 8 rfl; have p9 := Xp.c 9 rfl; have p10 := Xp.c 10 rfl; have p11 := Xp.c 11 rfl; have q0 := Xq.c 0 rfl; have q1 := Xq.c 1 rfl; have q2 := Xq.c 2 rfl; have q3 := Xq.c 3 rfl; have q4 := Xq.c 4 rfl; have q5 := Xq.c 5 rfl; have q6 := Xq.c 6 rfl; have q7 := Xq.c 7 rfl; have q8 := Xq.c 8 rfl; have q9 := Xq.c 9 rfl; have q10 := Xq.c 10 rfl; have q11 := Xq.c 11 rfl; have m0 := Xm.c 0 rfl; have m1 := Xm.c 1 rfl; have m2 := Xm.c 2 rfl; have m3 := Xm.c 3 rfl; have m4 := Xm.c 4 rfl; have m5 := Xm.c 5 rfl; have m6 := Xm.c 6 rfl; have m7 := Xm.c 7 rfl; have m8 := Xm.c 8 rfl; have m9 := Xm.c 9 rfl; have m10 := Xm.c 10 rfl; have m11 := Xm.c 11 rfl
        go_wp2_with fail
        generalize u1.heap.size = ga at *
        refine (DI2 _).mono ?_
        rintro e u2 ⟨rfl, hB⟩
        replace Xp := (Xp.step hB).alloc (.cells #[.int .u64 (ww3 N2), .int .u64 (ww2 N2), .int .u64 (ww1 N2), .int .u64 (ww0 N2), .int .u64 (ww3 D2), .int .u64 (ww2 D2), .int .u64 (ww1 D2), .int .u64 (ww0 D2)] 38); replace Xq := (Xq.step hB).alloc (.cells #[.int .u64 (ww3 N2), .int .u64 (ww2 N2), .int .u64 (ww1 N2), .int .u64 (ww0 N2), .int .u64 (ww3 D2), .int .u64 (ww2 D2), .int .u64 (ww1 D2), .int .u64 (ww0 D2)] 38); replace Xm := (Xm.step hB).alloc (.cells #[.int .u64 (ww3 N2), .int .u64 (ww2 N2), .int .u64 (ww1 N2), .int .u64 (ww0 N2), .int .u64 (ww3 D2), .int .u64 (ww2 D2), .int .u64 (ww1 D2), .int .u64 (ww0 D2)] 38); replace Xa := (Xa.step hB).alloc (.cells #[.int .u64 (ww3 N2), .int .u64 (ww2 N2), .int .u64 (ww1 N2), .int .u64 (ww0 N2), .int .u64 (ww3 D2), .int .u64 (ww2 D2), .int .u64 (ww1 D2), .int .u64 (ww0 D2)] 38)
        have Xb := Blk.new u2 [.int .u64 (ww3 N2), .int .u64 (ww2 N2), .int .u64 (ww1 N2), .int .u64 (ww0 N2), .int .u64 (ww3 D2), .int .u64 (ww2 D2), .int .u64 (ww1 D2), .int .u64 (ww0 D2)] 38 rfl
        replace HB := (HB.trans (hB.mono HB.size)).alloc (HB.trans (hB.mono HB.size)).size (.cells #[.int .u64 (ww3 N2), .int .u64 (ww2 N2), .int .u64 (ww1 N2), .int .u64 (ww0 N2), .int .u64 (ww3 D2), .int .u64 (ww2 D2), .int .u64 (ww1 D2), .int .u64 (ww0 D2)] 38)
        clear hB p0 p1 p2 p3 p4 p5 p6 p7 p8 p9 p10 p11 q0 q1 q2 q3 q4 q5 q6 q7 q8 q9 q10 q11 m0 m1 m2 m3 m4 m5 m6 m7 m8 m9 m10 m11
        have p0 := Xp.c 0 rfl; have p1 := Xp.c 1 rfl; have p2 := Xp.c 2 rfl; have p3 := Xp.c 3 rfl; have p4 := Xp.c 4 rfl; have p5 := Xp.c 5 rfl; have p6 := Xp.c 6 rfl; have p7 := Xp.c 7 rfl; have p8 := Xp.c 8 rfl; have p9 := Xp.c 9 rfl; have p10 := Xp.c 10 rfl; have p11 := Xp.c 11 rfl; have q0 := Xq.c 0 rfl; have q1 := Xq.c 1 rfl; have q2 := Xq.c 2 rfl; have q3 := Xq.c 3 rfl; have q4 := Xq.c 4 rfl; have q5 := Xq.c 5 rfl; have q6 := Xq.c 6 rfl; have q7 := Xq.c 7 rfl; have q8 := Xq.c 8 rfl; have q9 := Xq.c 9 rfl; have q10 := Xq.c 10 rfl; have q11 := Xq.c 11 rfl; have m0 := Xm.c 0 rfl; have m1 := Xm.c 1 rfl; have m2 := Xm.c 2 rfl; have m3 := Xm.c 3 rfl; have m4 := Xm.c 4 rfl; have m5 := Xm.c 5 rfl; have m6 := Xm.c 6 rfl; have m7 := Xm.c 7 rfl; have m8 := Xm.c 8 rfl; have m9 := Xm.c 9 rfl; have m10 := Xm.c 10 rfl; have m11 := Xm.c 11 rfl
        go_wp2_with fail
        generalize u2.heap.size = gb at *
        refine (DI3 _).mono ?_
        rintro e u3 ⟨rfl, hB⟩
        replace Xa := (Xa.step hB).alloc (.cells #[.int .u64 (ww3 N4), .int .u64 (ww2 N4), .int .u64 (ww1 N4), .int .u64 (ww0 N4), .int .u64 (ww3 D4), .int .u64 (ww2 D4), .int .u64 (ww1 D4), .int .u64 (ww0 D4)] 38); replace Xb := (Xb.step hB).alloc (.cells #[.int .u64 (ww3 N4), .int .u64 (ww2 N4), .int .u64 (ww1 N4), .int .u64 (ww0 N4), .int .u64 (ww3 D4), .int .u64 (ww2 D4), .int .u64 (ww1 D4), .int .u64 (ww0 D4)] 38)
        have Xc := Blk.new u3 [.int .u64 (ww3 N4), .int .u64 (ww2 N4), .int .u64 (ww1 N4), .int .u64 (ww0 N4), .int .u64 (ww3 D4), .int .u64 (ww2 D4), .int .u64 (ww1 D4), .int .u64 (ww0 D4)] 38 rfl
        replace HB := (HB.trans (hB.mono HB.size)).alloc (HB.trans (hB.mono HB.size)).size (.cells #[.int .u64 (ww3 N4), .int .u64 (ww2 N4), .int .u64 (ww1 N4), .int .u64 (ww0 N4), .int .u64 (ww3 D4), .int .u64 (ww2 D4), .int .u64 (ww1 D4), .int .u64 (ww0 D4)] 38)
        clear hB p0 p1 p2 p3 p4 p5 p6 p7 p8 p9 p10 p11 q0 q1 q2 q3 q4 q5 q6 q7 q8 q9 q10 q11 m0 m1 m2 m3 m4 m5 m6 m7 m8 m9 m10 m11 Xp Xq Xm DI1 DI2 DI3
        have a0 := Xa.c 0 rfl; have b0 := Xb.c 0 rfl; have a1 := Xa.c 1 rfl; have b1 := Xb.c 1 rfl; have a2 := Xa.c 2 rfl; have b2 := Xb.c 2 rfl; have a3 := Xa.c 3 rfl; have b3 := Xb.c 3 rfl; have a4 := Xa.c 4 rfl; have b4 := Xb.c 4 rfl; have a5 := Xa.c 5 rfl; have b5 := Xb.c 5 rfl; have a6 := Xa.c 6 rfl; have b6 := Xb.c 6 rfl; have a7 := Xa.c 7 rfl; have b7 := Xb.c 7 rfl
        have htt : (t2 != t2) = false := by cases t2 <;> rfl
        go_upto_region 17 with fail
        clear a0 b0 a1 b1 a2 b2 a3 b3 a4 b4 a5 b5 a6 b6 a7 b7 Xb
        generalize u3.alloc (.cells #[.int .u64 (ww3 N4), .int .u64 (ww2 N4), .int .u64 (ww1 N4), .int .u64 (ww0 N4), .int .u64 (ww3 D4), .int .u64 (ww2 D4), .int .u64 (ww1 D4), .int .u64 (ww0 D4)] 38) = U3 at *
        generalize u3.heap.size = gc at *
        have hga := Xa.lt; have hgc := Xc.lt
        have tok3 : True := trivial
        go_cut [15, 16] (fun p q wx => (∃ g', p = .pointer (some ⟨g', 0, none⟩) ∧ Blk wx g' [.int .u64 (ww3 N5), .int .u64 (ww2 N5), .int .u64 (ww1 N5), .int .u64 (ww0 N5), .int .u64 (ww3 D5), .int .u64 (ww2 D5), .int .u64 (ww1 D5), .int .u64 (ww0 D5)]) ∧ q = .bool t5 ∧ Below w.heap.size w wx ∧ Blk wx gc [.int .u64 (ww3 N4), .int .u64 (ww2 N4), .int .u64 (ww1 N4), .int .u64 (ww0 N4), .int .u64 (ww3 D4), .int .u64 (ww2 D4), .int .u64 (ww1 D4), .int .u64 (ww0 D4)])
        case first =>
          go_region_held3 (fun w' => w'.cell? ⟨ga, 0, none⟩ = some (.int .u64 (ww3 N2)) ∧ w'.cell? ⟨ga, 1, none⟩ = some (.int .u64 (ww2 N2)) ∧ w'.cell? ⟨ga, 2, none⟩ = some (.int .u64 (ww1 N2)) ∧ w'.cell? ⟨ga, 3, none⟩ = some (.int .u64 (ww0 N2)) ∧ w'.cell? ⟨ga, 4, none⟩ = some (.int .u64 (ww3 D2)) ∧ w'.cell? ⟨ga, 5, none⟩ = some (.int .u64 (ww2 D2)) ∧ w'.cell? ⟨ga, 6, none⟩ = some (.int .u64 (ww1 D2)) ∧ w'.cell? ⟨ga, 7, none⟩ = some (.int .u64 (ww0 D2))) ((refine da_cells ?_ <;> repeat (first | (with_reducible exact Xa) | (with_reducible refine Blk.drew ?_) | (with_reducible refine Blk.alloc ?_ _) | (with_reducible refine Blk.set8 ?_ (by omega)))))
            (first
              | (go_at_call 16; have _t := tok3; refine (W1 _).mono ?_; rintro e k1 ⟨rfl, hB⟩; (first | (replace Xa := Xa.step hB; replace Xc := Xc.step hB; replace HB := HB.trans (hB.mono HB.size); (try (replace G0 := G0.step hB; have j0c := G0.c 0 rfl; have j0f := G0.f 0 rfl; have j1c := G0.c 1 rfl; have j1f := G0.f 1 rfl; have j2c := G0.c 2 rfl; have j2f := G0.f 2 rfl; have j3c := G0.c 3 rfl; have j3f := G0.f 3 rfl; have j4c := G0.c 4 rfl; have j4f := G0.f 4 rfl; have j5c := G0.c 5 rfl; have j5f := G0.f 5 rfl; have j6c := G0.c 6 rfl; have j6f := G0.f 6 rfl; have j7c := G0.c 7 rfl; have j7f := G0.f 7 rfl))) | (replace Xa := Xa.drew.step hB; replace Xc := Xc.drew.step hB; replace HB := HB.drew.trans (hB.mono HB.drew.size); (try (replace G0 := G0.drew.step hB; have j0c := G0.c 0 rfl; have j0f := G0.f 0 rfl; have j1c := G0.c 1 rfl; have j1f := G0.f 1 rfl; have j2c := G0.c 2 rfl; have j2f := G0.f 2 rfl; have j3c := G0.c 3 rfl; have j3f := G0.f 3 rfl; have j4c := G0.c 4 rfl; have j4f := G0.f 4 rfl; have j5c := G0.c 5 rfl; have j5f := G0.f 5 rfl; have j6c := G0.c 6 rfl; have j6f := G0.f 6 rfl; have j7c := G0.c 7 rfl; have j7f := G0.f 7 rfl))) | (have G0 := (Blk.new _ [.int .u64 0, .int .u64 0, .int .u64 0, .int .u64 0, .int .u64 0, .int .u64 0, .int .u64 0, .int .u64 0] _ rfl).step hB; have hga0 := Xa.lt; have hgc0 := Xc.lt; have hwl := HB.size; have j0c := G0.c 0 rfl; have j0f := G0.f 0 rfl; have j1c := G0.c 1 rfl; have j1f := G0.f 1 rfl; have j2c := G0.c 2 rfl; have j2f := G0.f 2 rfl; have j3c := G0.c 3 rfl; have j3f := G0.f 3 rfl; have j4c := G0.c 4 rfl; have j4f := G0.f 4 rfl; have j5c := G0.c 5 rfl; have j5f := G0.f 5 rfl; have j6c := G0.c 6 rfl; have j6f := G0.f 6 rfl; have j7c := G0.c 7 rfl; have j7f := G0.f 7 rfl; replace Xa := (Xa.alloc _).step hB; replace Xc := (Xc.alloc _).step hB; replace HB := (HB.alloc HB.size _).trans (hB.mono (HB.alloc HB.size _).size)) | (have G0 := (Blk.new _ [.int .u64 0, .int .u64 0, .int .u64 0, .int .u64 0, .int .u64 0, .int .u64 0, .int .u64 0, .int .u64 0] _ rfl).drew.step hB; have hga0 := Xa.lt; have hgc0 := Xc.lt; have hwl := HB.size; have j0c := G0.c 0 rfl; have j0f := G0.f 0 rfl; have j1c := G0.c 1 rfl; have j1f := G0.f 1 rfl; have j2c := G0.c 2 rfl; have j2f := G0.f 2 rfl; have j3c := G0.c 3 rfl; have j3f := G0.f 3 rfl; have j4c := G0.c 4 rfl; have j4f := G0.f 4 rfl; have j5c := G0.c 5 rfl; have j5f := G0.f 5 rfl; have j6c := G0.c 6 rfl; have j6f := G0.f 6 rfl; have j7c := G0.c 7 rfl; have j7f := G0.f 7 rfl; replace Xa := (Xa.alloc _).drew.step hB; replace Xc := (Xc.alloc _).drew.step hB; replace HB := (HB.alloc HB.size _).drew.trans (hB.mono (HB.alloc HB.size _).drew.size))); clear hB; clear tok3 _t)
              | (go_at_call 16; refine (W2 _).mono ?_; rintro e k2 ⟨rfl, hB⟩; (first | (replace Xa := Xa.step hB; replace Xc := Xc.step hB; replace HB := HB.trans (hB.mono HB.size); (try (replace G0 := G0.step hB; have j0c := G0.c 0 rfl; have j0f := G0.f 0 rfl; have j1c := G0.c 1 rfl; have j1f := G0.f 1 rfl; have j2c := G0.c 2 rfl; have j2f := G0.f 2 rfl; have j3c := G0.c 3 rfl; have j3f := G0.f 3 rfl; have j4c := G0.c 4 rfl; have j4f := G0.f 4 rfl; have j5c := G0.c 5 rfl; have j5f := G0.f 5 rfl; have j6c := G0.c 6 rfl; have j6f := G0.f 6 rfl; have j7c := G0.c 7 rfl; have j7f := G0.f 7 rfl))) | (replace Xa := Xa.drew.step hB; replace Xc := Xc.drew.step hB; replace HB := HB.drew.trans (hB.mono HB.drew.size); (try (replace G0 := G0.drew.step hB; have j0c := G0.c 0 rfl; have j0f := G0.f 0 rfl; have j1c := G0.c 1 rfl; have j1f := G0.f 1 rfl; have j2c := G0.c 2 rfl; have j2f := G0.f 2 rfl; have j3c := G0.c 3 rfl; have j3f := G0.f 3 rfl; have j4c := G0.c 4 rfl; have j4f := G0.f 4 rfl; have j5c := G0.c 5 rfl; have j5f := G0.f 5 rfl; have j6c := G0.c 6 rfl; have j6f := G0.f 6 rfl; have j7c := G0.c 7 rfl; have j7f := G0.f 7 rfl))) | (have G0 := (Blk.new _ [.int .u64 0, .int .u64 0, .int .u64 0, .int .u64 0, .int .u64 0, .int .u64 0, .int .u64 0, .int .u64 0] _ rfl).step hB; have hga0 := Xa.lt; have hgc0 := Xc.lt; have hwl := HB.size; have j0c := G0.c 0 rfl; have j0f := G0.f 0 rfl; have j1c := G0.c 1 rfl; have j1f := G0.f 1 rfl; have j2c := G0.c 2 rfl; have j2f := G0.f 2 rfl; have j3c := G0.c 3 rfl; have j3f := G0.f 3 rfl; have j4c := G0.c 4 rfl; have j4f := G0.f 4 rfl; have j5c := G0.c 5 rfl; have j5f := G0.f 5 rfl; have j6c := G0.c 6 rfl; have j6f := G0.f 6 rfl; have j7c := G0.c 7 rfl; have j7f := G0.f 7 rfl; replace Xa := (Xa.alloc _).step hB; replace Xc := (Xc.alloc _).step hB; replace HB := (HB.alloc HB.size _).trans (hB.mono (HB.alloc HB.size _).size)) | (have G0 := (Blk.new _ [.int .u64 0, .int .u64 0, .int .u64 0, .int .u64 0, .int .u64 0, .int .u64 0, .int .u64 0, .int .u64 0] _ rfl).drew.step hB; have hga0 := Xa.lt; have hgc0 := Xc.lt; have hwl := HB.size; have j0c := G0.c 0 rfl; have j0f := G0.f 0 rfl; have j1c := G0.c 1 rfl; have j1f := G0.f 1 rfl; have j2c := G0.c 2 rfl; have j2f := G0.f 2 rfl; have j3c := G0.c 3 rfl; have j3f := G0.f 3 rfl; have j4c := G0.c 4 rfl; have j4f := G0.f 4 rfl; have j5c := G0.c 5 rfl; have j5f := G0.f 5 rfl; have j6c := G0.c 6 rfl; have j6f := G0.f 6 rfl; have j7c := G0.c 7 rfl; have j7f := G0.f 7 rfl; replace Xa := (Xa.alloc _).drew.step hB; replace Xc := (Xc.alloc _).drew.step hB; replace HB := (HB.alloc HB.size _).drew.trans (hB.mono (HB.alloc HB.size _).drew.size))); clear hB)
              | (go_at_call 15; refine (RM _).mono ?_; rintro e k3 ⟨rfl, hB⟩; (first | (replace Xa := Xa.step hB; replace Xc := Xc.step hB; replace HB := HB.trans (hB.mono HB.size); (try (replace G0 := G0.step hB; have j0c := G0.c 0 rfl; have j0f := G0.f 0 rfl; have j1c := G0.c 1 rfl; have j1f := G0.f 1 rfl; have j2c := G0.c 2 rfl; have j2f := G0.f 2 rfl; have j3c := G0.c 3 rfl; have j3f := G0.f 3 rfl; have j4c := G0.c 4 rfl; have j4f := G0.f 4 rfl; have j5c := G0.c 5 rfl; have j5f := G0.f 5 rfl; have j6c := G0.c 6 rfl; have j6f := G0.f 6 rfl; have j7c := G0.c 7 rfl; have j7f := G0.f 7 rfl))) | (replace Xa := Xa.drew.step hB; replace Xc := Xc.drew.step hB; replace HB := HB.drew.trans (hB.mono HB.drew.size); (try (replace G0 := G0.drew.step hB; have j0c := G0.c 0 rfl; have j0f := G0.f 0 rfl; have j1c := G0.c 1 rfl; have j1f := G0.f 1 rfl; have j2c := G0.c 2 rfl; have j2f := G0.f 2 rfl; have j3c := G0.c 3 rfl; have j3f := G0.f 3 rfl; have j4c := G0.c 4 rfl; have j4f := G0.f 4 rfl; have j5c := G0.c 5 rfl; have j5f := G0.f 5 rfl; have j6c := G0.c 6 rfl; have j6f := G0.f 6 rfl; have j7c := G0.c 7 rfl; have j7f := G0.f 7 rfl))) | (have G0 := (Blk.new _ [.int .u64 0, .int .u64 0, .int .u64 0, .int .u64 0, .int .u64 0, .int .u64 0, .int .u64 0, .int .u64 0] _ rfl).step hB; have hga0 := Xa.lt; have hgc0 := Xc.lt; have hwl := HB.size; have j0c := G0.c 0 rfl; have j0f := G0.f 0 rfl; have j1c := G0.c 1 rfl; have j1f := G0.f 1 rfl; have j2c := G0.c 2 rfl; have j2f := G0.f 2 rfl; have j3c := G0.c 3 rfl; have j3f := G0.f 3 rfl; have j4c := G0.c 4 rfl; have j4f := G0.f 4 rfl; have j5c := G0.c 5 rfl; have j5f := G0.f 5 rfl; have j6c := G0.c 6 rfl; have j6f := G0.f 6 rfl; have j7c := G0.c 7 rfl; have j7f := G0.f 7 rfl; replace Xa := (Xa.alloc _).step hB; replace Xc := (Xc.alloc _).step hB; replace HB := (HB.alloc HB.size _).trans (hB.mono (HB.alloc HB.size _).size)) | (have G0 := (Blk.new _ [.int .u64 0, .int .u64 0, .int .u64 0, .int .u64 0, .int .u64 0, .int .u64 0, .int .u64 0, .int .u64 0] _ rfl).drew.step hB; have hga0 := Xa.lt; have hgc0 := Xc.lt; have hwl := HB.size; have j0c := G0.c 0 rfl; have j0f := G0.f 0 rfl; have j1c := G0.c 1 rfl; have j1f := G0.f 1 rfl; have j2c := G0.c 2 rfl; have j2f := G0.f 2 rfl; have j3c := G0.c 3 rfl; have j3f := G0.f 3 rfl; have j4c := G0.c 4 rfl; have j4f := G0.f 4 rfl; have j5c := G0.c 5 rfl; have j5f := G0.f 5 rfl; have j6c := G0.c 6 rfl; have j6f := G0.f 6 rfl; have j7c := G0.c 7 rfl; have j7f := G0.f 7 rfl; replace Xa := (Xa.alloc _).drew.step hB; replace Xc := (Xc.alloc _).drew.step hB; replace HB := (HB.alloc HB.size _).drew.trans (hB.mono (HB.alloc HB.size _).drew.size))); clear hB))
          all_goals go_wp2_with fail
          all_goals go_meet
          all_goals refine ⟨⟨_, rfl, ?_⟩, rfl, ?_, ?_⟩
          all_goals first
            | with_reducible exact Blk.new _ _ _ rfl
            | with_reducible exact HB.alloc HB.size _
            | with_reducible exact Xc.alloc _
            | with_reducible exact G0.stored8 _ _ _ _ _ _ _ _
            | with_reducible exact Xc.set8 (by omega)
            | with_reducible exact below_set8 (by omega) HB
        case rest =>
          clear HB Xa Xc RM W1 W2 tok3 hga hgc
          obtain ⟨⟨gd, hp, Xd⟩, hq, HB, Xc⟩ := hcut
          subst hp; subst hq
          have a0 := Xd.c 0 rfl; have b0 := Xc.c 0 rfl; have a1 := Xd.c 1 rfl; have b1 := Xc.c 1 rfl; have a2 := Xd.c 2 rfl; have b2 := Xc.c 2 rfl; have a3 := Xd.c 3 rfl; have b3 := Xc.c 3 rfl; have a4 := Xd.c 4 rfl; have b4 := Xc.c 4 rfl; have a5 := Xd.c 5 rfl; have b5 := Xc.c 5 rfl; have a6 := Xd.c 6 rfl; have b6 := Xc.c 6 rfl; have a7 := Xd.c 7 rfl; have b7 := Xc.c 7 rfl
          cases t2
          · clear hsame
            go_wp2
            go_ret
            exact ⟨rfl, HB⟩
          · obtain ⟨rfl, rfl, rfl⟩ := hsame rfl
            cases t5
            · go_wp2
              go_ret
              exact ⟨rfl, HB⟩
            · go_wp2
              go_ret
              exact ⟨rfl, HB⟩
end Go.Proofs.Ytnflhnfjlbjgdaa
