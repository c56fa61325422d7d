/- Fractions of two numbers: the program's, the model's; and when two fractions are one. -/
import Derived.Test.YtddniklhpkagmaaMake
import Derived.Test.YtddniklhpkagmaaLawB
namespace Go.Proofs.Ytddniklhpkagmaa
open Go.RowKit
/-- A fraction as it is told. -/
def rtV (n d : Int) : Value := if told n = true ∧ told d = true then .tuple #[Rt (ww3 n) (ww2 n) (ww1 n) (ww0 n) (ww3 d) (ww2 d) (ww1 d) (ww0 d), .bool true] else .tuple #[.agg #[.int .u64 0, .int .u64 0, .int .u64 0, .int .u64 0, .int .u64 0, .int .u64 0, .int .u64 0, .int .u64 0], .bool false]
theorem ratV_rt {x y : Int} (hy : y ≠ 0) : ratV x y = rtV (lowN x y) (lowD x y) := by
  unfold ratV rtV
  by_cases h : told (lowN x y) = true ∧ told (lowD x y) = true
  · rw [if_pos ⟨hy, h⟩, if_pos h]
  · rw [if_neg (fun h' => h h'.2), if_neg h]
theorem ratV_ex (x y : Int) : ∃ z0 z1 z2 z3 z4 z5 z6 z7 : Int, ∃ t : Bool, ratV x y = .tuple #[.agg #[.int .u64 z0, .int .u64 z1, .int .u64 z2, .int .u64 z3, .int .u64 z4, .int .u64 z5, .int .u64 z6, .int .u64 z7], .bool t] := by
  unfold ratV
  split
  · exact ⟨_, _, _, _, _, _, _, _, _, rfl⟩
  · exact ⟨_, _, _, _, _, _, _, _, _, rfl⟩
theorem rtV_ex (x y : Int) : ∃ z0 z1 z2 z3 z4 z5 z6 z7 : Int, ∃ t : Bool, rtV x y = .tuple #[.agg #[.int .u64 z0, .int .u64 z1, .int .u64 z2, .int .u64 z3, .int .u64 z4, .int .u64 z5, .int .u64 z6, .int .u64 z7], .bool t] := by
  unfold rtV
  split
  · exact ⟨_, _, _, _, _, _, _, _, _, rfl⟩
  · exact ⟨_, _, _, _, _, _, _, _, _, rfl⟩
theorem lr_args (s1 : Bool) (o1 : Option Addr) (n1 c1 : Nat) (s2 : Bool) (o2 : Option Addr) (n2 c2 : Nat) (w : World) : ArgsB w ((w.alloc (.cells #[.bool s1, .slice o1 n1 c1, .bool s2, .slice o2 n2 c2] 88)).alloc (.cells #[.int .u64 0, .int .u64 0, .int .u64 0, .int .u64 0, .int .u64 0, .int .u64 0, .int .u64 0, .int .u64 0] 41)) [[.bool s1, .slice o1 n1 c1, .bool s2, .slice o2 n2 c2], [.int .u64 0, .int .u64 0, .int .u64 0, .int .u64 0, .int .u64 0, .int .u64 0, .int .u64 0, .int .u64 0]] := by
  refine ⟨((Below.refl _ _).alloc (Nat.le_refl _) _).alloc (by simp) _, fun j vs hj => ?_⟩
  match j, hj with
  | 0, hj => cases hj; exact (Blk.new w [.bool s1, .slice o1 n1 c1, .bool s2, .slice o2 n2 c2] 88 rfl).alloc _
  | 1, hj => cases hj; exact Blk.new (w.alloc (.cells #[.bool s1, .slice o1 n1 c1, .bool s2, .slice o2 n2 c2] 88)) [.int .u64 0, .int .u64 0, .int .u64 0, .int .u64 0, .int .u64 0, .int .u64 0, .int .u64 0, .int .u64 0] 41 (by simp)
  | j + 2, hj => simp at hj
set_option maxRecDepth 100000 in
set_option maxHeartbeats 2000000 in
theorem l2Ratio_any (s1 : Bool) (o1 : Option Addr) (n1 c1 : Nat) (d1 : List Int) (s2 : Bool) (o2 : Option Addr) (n2 c2 : Nat) (d2 : List Int) (x y : Int) (k : Nat) (hk : k ≤ 8000) (w : World) (N1 : IsNum w s1 o1 n1 c1 d1 x k) (N2 : IsNum w s2 o2 n2 c2 d2 y k) :
    Calls Try.prog 76 #[.agg #[.bool s1, .slice o1 n1 c1, .bool s2, .slice o2 n2 c2]] w (VP (rtV x y) w) := by
  have T0 := lr_args s1 o1 n1 c1 s2 o2 n2 c2 w
  replace N1 := N1.step T0.below
  replace N2 := N2.step T0.below
  obtain ⟨e3, e2, e1, e0, HT1, HC1⟩ := tellV_ex x
  obtain ⟨f3, f2, f1, f0, HT2, HC2⟩ := tellV_ex y
  obtain ⟨t1, ht1⟩ : ∃ t, told x = t := ⟨_, rfl⟩
  obtain ⟨t2, ht2⟩ : ∃ t, told y = t := ⟨_, rfl⟩
  have HR : Hid (rtV x y = if t1 = true ∧ t2 = true then .tuple #[.agg #[.int .u64 e3, .int .u64 e2, .int .u64 e1, .int .u64 e0, .int .u64 f3, .int .u64 f2, .int .u64 f1, .int .u64 f0], .bool true] else .tuple #[.agg #[.int .u64 0, .int .u64 0, .int .u64 0, .int .u64 0, .int .u64 0, .int .u64 0, .int .u64 0, .int .u64 0], .bool false]) := by
    show _ = _
    unfold rtV
    rw [ht1, ht2]
    by_cases h1 : t1 = true
    · by_cases h2 : t2 = true
      · have g1 := HC1 (ht1.trans h1)
        have g2 := HC2 (ht2.trans h2)
        simp only [Value.agg.injEq] at g1 g2
        simp at g1 g2
        rw [if_pos ⟨h1, h2⟩, if_pos ⟨h1, h2⟩, g1.1, g1.2.1, g1.2.2.1, g1.2.2.2, g2.1, g2.2.1, g2.2.2.1, g2.2.2.2]
      · rw [if_neg (by rintro ⟨_, h⟩; exact h2 h), if_neg (by rintro ⟨_, h⟩; exact h2 h)]
    · rw [if_neg (by rintro ⟨h, _⟩; exact h1 h), if_neg (by rintro ⟨h, _⟩; exact h1 h)]
  rw [ht1] at HT1
  rw [ht2] at HT2
  clear ht1 ht2 HC1 HC2
  go_enter Try.func76, Try.ntmps76
  go_upto_region 1 with fail
  generalize ((w.alloc (.cells #[.bool s1, .slice o1 n1 c1, .bool s2, .slice o2 n2 c2] 88)).alloc (.cells #[.int .u64 0, .int .u64 0, .int .u64 0, .int .u64 0, .int .u64 0, .int .u64 0, .int .u64 0, .int .u64 0] 41)) = W at *
  have x0c := (T0.b 0 rfl).c 0 rfl; have x1c := (T0.b 0 rfl).c 1 rfl; have x2c := (T0.b 0 rfl).c 2 rfl; have x3c := (T0.b 0 rfl).c 3 rfl
  simp only [Nat.add_zero] at x0c x1c x2c x3c
  go_wp2_with fail
  refine (toW_det s1 o1 n1 c1 d1 _ _ _ N1 (by omega)).mono ?_
  rw [HT1]
  rintro e w1 ⟨rfl, hB⟩
  replace T0 := T0.step hB; replace N2 := N2.step hB
  clear hB N1 HT1 x0c x1c x2c x3c
  have hl1 := (T0.b 1 rfl).lt
  go_upto_region 2 with fail
  have X1 := Blk.new w1 [.int .u64 e3, .int .u64 e2, .int .u64 e1, .int .u64 e0] 25 rfl
  replace T0 := T0.alloc (.cells #[.int .u64 e3, .int .u64 e2, .int .u64 e1, .int .u64 e0] 25)
  replace N2 := N2.alloc (.cells #[.int .u64 e3, .int .u64 e2, .int .u64 e1, .int .u64 e0] 25)
  generalize w1.alloc (.cells #[.int .u64 e3, .int .u64 e2, .int .u64 e1, .int .u64 e0] 25) = W2 at *
  generalize w1.heap.size = g1 at *
  have x0c := (T0.b 0 rfl).c 0 rfl; have x1c := (T0.b 0 rfl).c 1 rfl; have x2c := (T0.b 0 rfl).c 2 rfl; have x3c := (T0.b 0 rfl).c 3 rfl
  simp only [Nat.add_zero] at x0c x1c x2c x3c
  go_wp2_with fail
  refine (toW_det s2 o2 n2 c2 d2 _ _ _ N2 (by omega)).mono ?_
  rw [HT2]
  rintro e w3 ⟨rfl, hB⟩
  replace T0 := T0.step hB; replace X1 := X1.step hB
  clear hB N2 HT2 x0c x1c x2c x3c
  have hl3 := (T0.b 1 rfl).lt
  have hx1 := X1.lt
  go_upto_region 3 with fail
  have X2 := Blk.new w3 [.int .u64 f3, .int .u64 f2, .int .u64 f1, .int .u64 f0] 25 rfl
  replace T0 := T0.alloc (.cells #[.int .u64 f3, .int .u64 f2, .int .u64 f1, .int .u64 f0] 25)
  replace X1 := X1.alloc (.cells #[.int .u64 f3, .int .u64 f2, .int .u64 f1, .int .u64 f0] 25)
  generalize w3.alloc (.cells #[.int .u64 f3, .int .u64 f2, .int .u64 f1, .int .u64 f0] 25) = W4' at *
  generalize w3.heap.size = g2 at *
  have R0 := T0.b 1 rfl
  by_cases ht : t1 = true ∧ t2 = true
  · obtain ⟨rfl, rfl⟩ := ht
    have HV : Hid (rtV x y = .tuple #[.agg #[.int .u64 e3, .int .u64 e2, .int .u64 e1, .int .u64 e0, .int .u64 f3, .int .u64 f2, .int .u64 f1, .int .u64 f0], .bool true]) := by show _ = _; rw [HR.out]; simp
    have HB := T0.below
    have o0c := R0.c 0 rfl; have o0f := R0.f 0 rfl; have o1c := R0.c 1 rfl; have o1f := R0.f 1 rfl; have o2c := R0.c 2 rfl; have o2f := R0.f 2 rfl; have o3c := R0.c 3 rfl; have o3f := R0.f 3 rfl; have o4c := R0.c 4 rfl; have o4f := R0.f 4 rfl; have o5c := R0.c 5 rfl; have o5f := R0.f 5 rfl; have o6c := R0.c 6 rfl; have o6f := R0.f 6 rfl; have o7c := R0.c 7 rfl; have o7f := R0.f 7 rfl
    have p0c := X1.c 0 rfl; have p1c := X1.c 1 rfl; have p2c := X1.c 2 rfl; have p3c := X1.c 3 rfl
    have q0c := X2.c 0 rfl; have q1c := X2.c 1 rfl; have q2c := X2.c 2 rfl; have q3c := X2.c 3 rfl
    go_wp2
    refine bodyPost_ret (v := .tuple #[.agg #[.int .u64 e3, .int .u64 e2, .int .u64 e1, .int .u64 e0, .int .u64 f3, .int .u64 f2, .int .u64 f1, .int .u64 f0], .bool true]) (by simp [results, Try.results76, go_sem, o0c, o1c, o2c, o3c, o4c, o5c, o6c, o7c]) rfl ?_
    refine ⟨by rw [HV.out], ?_⟩
    repeat' (refine Below.setCell ?_ (by simp; try omega) _)
    exact HB
  · have HV : Hid (rtV x y = .tuple #[.agg #[.int .u64 0, .int .u64 0, .int .u64 0, .int .u64 0, .int .u64 0, .int .u64 0, .int .u64 0, .int .u64 0], .bool false]) := by show _ = _; rw [HR.out, if_neg ht]
    cases t1
    · have tok : True := trivial
      have HB := T0.below
      have o0c := R0.c 0 rfl; have o0f := R0.f 0 rfl; have o1c := R0.c 1 rfl; have o1f := R0.f 1 rfl; have o2c := R0.c 2 rfl; have o2f := R0.f 2 rfl; have o3c := R0.c 3 rfl; have o3f := R0.f 3 rfl; have o4c := R0.c 4 rfl; have o4f := R0.f 4 rfl; have o5c := R0.c 5 rfl; have o5f := R0.f 5 rfl; have o6c := R0.c 6 rfl; have o6f := R0.f 6 rfl; have o7c := R0.c 7 rfl; have o7f := R0.f 7 rfl
      go_wp2
      refine bodyPost_ret (v := .tuple #[.agg #[.int .u64 0, .int .u64 0, .int .u64 0, .int .u64 0, .int .u64 0, .int .u64 0, .int .u64 0, .int .u64 0], .bool false]) (by simp [results, Try.results76, go_sem, o0c, o1c, o2c, o3c, o4c, o5c, o6c, o7c]) rfl ?_
      refine ⟨by rw [HV.out], ?_⟩
      repeat' (refine Below.setCell ?_ (by simp; try omega) _)
      exact HB
    · cases t2
      · have tok : True := trivial
        have HB := T0.below
        have o0c := R0.c 0 rfl; have o0f := R0.f 0 rfl; have o1c := R0.c 1 rfl; have o1f := R0.f 1 rfl; have o2c := R0.c 2 rfl; have o2f := R0.f 2 rfl; have o3c := R0.c 3 rfl; have o3f := R0.f 3 rfl; have o4c := R0.c 4 rfl; have o4f := R0.f 4 rfl; have o5c := R0.c 5 rfl; have o5f := R0.f 5 rfl; have o6c := R0.c 6 rfl; have o6f := R0.f 6 rfl; have o7c := R0.c 7 rfl; have o7f := R0.f 7 rfl
        go_wp2
        refine bodyPost_ret (v := .tuple #[.agg #[.int .u64 0, .int .u64 0, .int .u64 0, .int .u64 0, .int .u64 0, .int .u64 0, .int .u64 0, .int .u64 0], .bool false]) (by simp [results, Try.results76, go_sem, o0c, o1c, o2c, o3c, o4c, o5c, o6c, o7c]) rfl ?_
        refine ⟨by rw [HV.out], ?_⟩
        repeat' (refine Below.setCell ?_ (by simp; try omega) _)
        exact HB
      · exact absurd ⟨rfl, rfl⟩ ht
set_option maxRecDepth 100000 in
set_option maxHeartbeats 1000000 in
theorem eqRatio_same (a3 a2 a1 a0 b3 b2 b1 b0 : Int) (w : World) : Calls Try.prog 34 #[Rt a3 a2 a1 a0 b3 b2 b1 b0, Rt a3 a2 a1 a0 b3 b2 b1 b0] w (BoolP true w) := by
  have T0 := rc_args a3 a2 a1 a0 b3 b2 b1 b0 a3 a2 a1 a0 b3 b2 b1 b0 41 w
  go_enter Try.func34, Try.ntmps34
  go_upto_region 1 with fail
  generalize ((w.alloc (.cells #[.int .u64 a3, .int .u64 a2, .int .u64 a1, .int .u64 a0, .int .u64 b3, .int .u64 b2, .int .u64 b1, .int .u64 b0] 41)).alloc (.cells #[.int .u64 a3, .int .u64 a2, .int .u64 a1, .int .u64 a0, .int .u64 b3, .int .u64 b2, .int .u64 b1, .int .u64 b0] 41)) = W at *
  have x0c := (T0.b 0 rfl).c 0 rfl; have x1c := (T0.b 0 rfl).c 1 rfl; have x2c := (T0.b 0 rfl).c 2 rfl; have x3c := (T0.b 0 rfl).c 3 rfl; have x4c := (T0.b 0 rfl).c 4 rfl; have x5c := (T0.b 0 rfl).c 5 rfl; have x6c := (T0.b 0 rfl).c 6 rfl; have x7c := (T0.b 0 rfl).c 7 rfl
  have y0c := (T0.b 1 rfl).c 0 rfl; have y1c := (T0.b 1 rfl).c 1 rfl; have y2c := (T0.b 1 rfl).c 2 rfl; have y3c := (T0.b 1 rfl).c 3 rfl; have y4c := (T0.b 1 rfl).c 4 rfl; have y5c := (T0.b 1 rfl).c 5 rfl; have y6c := (T0.b 1 rfl).c 6 rfl; have y7c := (T0.b 1 rfl).c 7 rfl
  simp only [Nat.add_zero] at x0c x1c x2c x3c x4c x5c x6c x7c
  go_wp2_with fail
  refine (eqWide_same _ _ _ _ _).mono ?_
  rintro e w1 ⟨rfl, hB⟩
  replace T0 := T0.step hB
  clear hB x0c x1c x2c x3c x4c x5c x6c x7c y0c y1c y2c y3c y4c y5c y6c y7c
  have x0c := (T0.b 0 rfl).c 0 rfl; have x1c := (T0.b 0 rfl).c 1 rfl; have x2c := (T0.b 0 rfl).c 2 rfl; have x3c := (T0.b 0 rfl).c 3 rfl; have x4c := (T0.b 0 rfl).c 4 rfl; have x5c := (T0.b 0 rfl).c 5 rfl; have x6c := (T0.b 0 rfl).c 6 rfl; have x7c := (T0.b 0 rfl).c 7 rfl
  have y0c := (T0.b 1 rfl).c 0 rfl; have y1c := (T0.b 1 rfl).c 1 rfl; have y2c := (T0.b 1 rfl).c 2 rfl; have y3c := (T0.b 1 rfl).c 3 rfl; have y4c := (T0.b 1 rfl).c 4 rfl; have y5c := (T0.b 1 rfl).c 5 rfl; have y6c := (T0.b 1 rfl).c 6 rfl; have y7c := (T0.b 1 rfl).c 7 rfl
  simp only [Nat.add_zero] at x0c x1c x2c x3c x4c x5c x6c x7c
  go_wp2_with fail
  refine (eqWide_same _ _ _ _ _).mono ?_
  rintro e w2 ⟨rfl, hB⟩
  replace T0 := T0.step hB
  clear hB x0c x1c x2c x3c x4c x5c x6c x7c y0c y1c y2c y3c y4c y5c y6c y7c
  have HB := T0.below
  clear T0
  go_wp2
  go_ret
  exact ⟨rfl, HB⟩
end Go.Proofs.Ytddniklhpkagmaa
