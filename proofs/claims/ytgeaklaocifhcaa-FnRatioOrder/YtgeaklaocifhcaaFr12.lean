/- Part 12 of the walks that the proof leans on. -/
import Derived.Test.YtgeaklaocifhcaaFr11
import Derived.Test.YtgeaklaocifhcaaFr8
import Derived.Test.YtgeaklaocifhcaaFr7
/- Fractions of two numbers: the program's, the model's; and when two fractions are one. -/
namespace Go.Proofs.Ytgeaklaocifhcaa
open Go.RowKit
/-- A fraction as it is told. -/
def rtV (n d : Int) : Value := if told n = true ∧ told d = true then .tuple #[Rt (ww3 n) (ww2 n) (ww1 n) (ww0 n) (ww3 d) (ww2 d) (ww1 d) (ww0 d), .bool true] else .tuple #[.agg #[.int .u64 0, .int .u64 0, .int .u64 0, .int .u64 0, .int .u64 0, .int .u64 0, .int .u64 0, .int .u64 0], .bool false]
theorem ratV_rt {x y : Int} (hy : y ≠ 0) : ratV x y = rtV (lowN x y) (lowD x y) := by
  unfold ratV rtV
  by_cases h : told (lowN x y) = true ∧ told (lowD x y) = true
  · rw [if_pos ⟨hy, h⟩, if_pos h]
  · rw [if_neg (fun h' => h h'.2), if_neg h]
theorem ratV_ex (x y : Int) : ∃ z0 z1 z2 z3 z4 z5 z6 z7 : Int, ∃ t : Bool, ratV x y = .tuple #[.agg #[.int .u64 z0, .int .u64 z1, .int .u64 z2, .int .u64 z3, .int .u64 z4, .int .u64 z5, .int .u64 z6, .int .u64 z7], .bool t] := by
  unfold ratV
  split
  · exact ⟨_, _, _, _, _, _, _, _, _, rfl⟩
  · exact ⟨_, _, _, _, _, _, _, _, _, rfl⟩
theorem rtV_ex (x y : Int) : ∃ z0 z1 z2 z3 z4 z5 z6 z7 : Int, ∃ t : Bool, rtV x y = .tuple #[.agg #[.int .u64 z0, .int .u64 z1, .int .u64 z2, .int .u64 z3, .int .u64 z4, .int .u64 z5, .int .u64 z6, .int .u64 z7], .bool t] := by
  unfold rtV
  split
  · exact ⟨_, _, _, _, _, _, _, _, _, rfl⟩
  · exact ⟨_, _, _, _, _, _, _, _, _, rfl⟩
theorem lr_args (s1 : Bool) (o1 : Option Addr) (n1 c1 : Nat) (s2 : Bool) (o2 : Option Addr) (n2 c2 : Nat) (w : World) : ArgsB w ((w.alloc (.cells #[.bool s1, .slice o1 n1 c1, .bool s2, .slice o2 n2 c2] 57)).alloc (.cells #[.int .u64 0, .int .u64 0, .int .u64 0, .int .u64 0, .int .u64 0, .int .u64 0, .int .u64 0, .int .u64 0] 28)) [[.bool s1, .slice o1 n1 c1, .bool s2, .slice o2 n2 c2], [.int .u64 0, .int .u64 0, .int .u64 0, .int .u64 0, .int .u64 0, .int .u64 0, .int .u64 0, .int .u64 0]] := by
  refine ⟨((Below.refl _ _).alloc (Nat.le_refl _) _).alloc (by simp) _, fun j vs hj => ?_⟩
  match j, hj with
  | 0, hj => cases hj; exact (Blk.new w [.bool s1, .slice o1 n1 c1, .bool s2, .slice o2 n2 c2] 57 rfl).alloc _
  | 1, hj => cases hj; exact Blk.new (w.alloc (.cells #[.bool s1, .slice o1 n1 c1, .bool s2, .slice o2 n2 c2] 57)) [.int .u64 0, .int .u64 0, .int .u64 0, .int .u64 0, .int .u64 0, .int .u64 0, .int .u64 0, .int .u64 0] 28 (by simp)
  | j + 2, hj => simp at hj
set_option maxRecDepth 100000 in
set_option maxHeartbeats 2000000 in
theorem l2Ratio_any (s1 : Bool) (o1 : Option Addr) (n1 c1 : Nat) (d1 : List Int) (s2 : Bool) (o2 : Option Addr) (n2 c2 : Nat) (d2 : List Int) (x y : Int) (k : Nat) (hk : k ≤ 8000) (w : World) (N1 : IsNum w s1 o1 n1 c1 d1 x k) (N2 : IsNum w s2 o2 n2 c2 d2 y k) :
    Calls Try.prog 26 #[.agg #[.bool s1, .slice o1 n1 c1, .bool s2, .slice o2 n2 c2]] w (VP (rtV x y) w) := by
  have T0 := lr_args s1 o1 n1 c1 s2 o2 n2 c2 w
  replace N1 := N1.step T0.below
  replace N2 := N2.step T0.below
  obtain ⟨e3, e2, e1, e0, HT1, HC1⟩ := tellV_ex x
  obtain ⟨f3, f2, f1, f0, HT2, HC2⟩ := tellV_ex y
  obtain ⟨t1, ht1⟩ : ∃ t, told x = t := ⟨_, rfl⟩
  obtain ⟨t2, ht2⟩ : ∃ t, told y = t := ⟨_, rfl⟩
  have HR : Hid (rtV x y = if t1 = true ∧ t2 = true then .tuple #[.agg #[.int .u64 e3, .int .u64 e2, .int .u64 e1, .int .u64 e0, .int .u64 f3, .int .u64 f2, .int .u64 f1, .int .u64 f0], .bool true] else .tuple #[.agg #[.int .u64 0, .int .u64 0, .int .u64 0, .int .u64 0, .int .u64 0, .int .u64 0, .int .u64 0, .int .u64 0], .bool false]) := by
    show _ = _
    unfold rtV
    rw [ht1, ht2]
    by_cases h1 : t1 = true
    · by_cases h2 : t2 = true
      · have g1 := HC1 (ht1.trans h1)
        have g2 := HC2 (ht2.trans h2)
        simp only [Value.agg.injEq] at g1 g2
        simp at g1 g2
        rw [if_pos ⟨h1, h2⟩, if_pos ⟨h1, h2⟩, g1.1, g1.2.1, g1.2.2.1, g1.2.2.2, g2.1, g2.2.1, g2.2.2.1, g2.2.2.2]
      · rw [if_neg (by rintro ⟨_, h⟩; exact h2 h), if_neg (by rintro ⟨_, h⟩; exact h2 h)]
    · rw [if_neg (by rintro ⟨h, _⟩; exact h1 h), if_neg (by rintro ⟨h, _⟩; exact h1 h)]
  rw [ht1] at HT1
  rw [ht2] at HT2
  clear ht1 ht2 HC1 HC2
  go_enter Try.func26, Try.ntmps26
  go_upto_region 1 with fail
  generalize ((w.alloc (.cells #[.bool s1, .slice o1 n1 c1, .bool s2, .slice o2 n2 c2] 57)).alloc (.cells #[.int .u64 0, .int .u64 0, .int .u64 0, .int .u64 0, .int .u64 0, .int .u64 0, .int .u64 0, .int .u64 0] 28)) = W at *
  have x0c := (T0.b 0 rfl).c 0 rfl; have x1c := (T0.b 0 rfl).c 1 rfl; have x2c := (T0.b 0 rfl).c 2 rfl; have x3c := (T0.b 0 rfl).c 3 rfl
  simp only [Nat.add_zero] at x0c x1c x2c x3c
  go_wp2_with fail
  refine (toW_det s1 o1 n1 c1 d1 _ _ _ N1 (by omega)).mono ?_
  rw [HT1]
  rintro e w1 ⟨rfl, hB⟩
  replace T0 := T0.step hB; replace N2 := N2.step hB
  clear hB N1 HT1 x0c x1c x2c x3c
  have hl1 := (T0.b 1 rfl).lt
  go_upto_region 2 with fail
  have X1 := Blk.new w1 [.int .u64 e3, .int .u64 e2, .int .u64 e1, .int .u64 e0] 26 rfl
  replace T0 := T0.alloc (.cells #[.int .u64 e3, .int .u64 e2, .int .u64 e1, .int .u64 e0] 26)
  replace N2 := N2.alloc (.cells #[.int .u64 e3, .int .u64 e2, .int .u64 e1, .int .u64 e0] 26)
  generalize w1.alloc (.cells #[.int .u64 e3, .int .u64 e2, .int .u64 e1, .int .u64 e0] 26) = W2 at *
  generalize w1.heap.size = g1 at *
  have x0c := (T0.b 0 rfl).c 0 rfl; have x1c := (T0.b 0 rfl).c 1 rfl; have x2c := (T0.b 0 rfl).c 2 rfl; have x3c := (T0.b 0 rfl).c 3 rfl
  simp only [Nat.add_zero] at x0c x1c x2c x3c
  go_wp2_with fail
  refine (toW_det s2 o2 n2 c2 d2 _ _ _ N2 (by omega)).mono ?_
  rw [HT2]
  rintro e w3 ⟨rfl, hB⟩
  replace T0 := T0.step hB; replace X1 := X1.step hB
  clear hB N2 HT2 x0c x1c x2c x3c
  have hl3 := (T0.b 1 rfl).lt
  have hx1 := X1.lt
  go_upto_region 3 with fail
  have X2 := Blk.new w3 [.int .u64 f3, .int .u64 f2, .int .u64 f1, .int .u64 f0] 26 rfl
  replace T0 := T0.alloc (.cells #[.int .u64 f3, .int .u64 f2, .int .u64 f1, .int .u64 f0] 26)
  replace X1 := X1.alloc (.cells #[.int .u64 f3, .int .u64 f2, .int .u64 f1, .int .u64 f0] 26)
  generalize w3.alloc (.cells #[.int .u64 f3, .int .u64 f2, .int .u64 f1, .int .u64 f0] 26) = W4' at *
  generalize w3.heap.size = g2 at *
  have R0 := T0.b 1 rfl
  by_cases ht : t1 = true ∧ t2 = true
  · obtain ⟨rfl, rfl⟩ := ht
    have HV : Hid (rtV x y = .tuple #[.agg #[.int .u64 e3, .int .u64 e2, .int .u64 e1, .int .u64 e0, .int .u64 f3, .int .u64 f2, .int .u64 f1, .int .u64 f0], .bool true]) := by show _ = _; rw [HR.out]; simp
    have HB := T0.below
    have o0c := R0.c 0 rfl; have o0f := R0.f 0 rfl; have o1c := R0.c 1 rfl; have o1f := R0.f 1 rfl; have o2c := R0.c 2 rfl; have o2f := R0.f 2 rfl; have o3c := R0.c 3 rfl; have o3f := R0.f 3 rfl; have o4c := R0.c 4 rfl; have o4f := R0.f 4 rfl; have o5c := R0.c 5 rfl; have o5f := R0.f 5 rfl; have o6c := R0.c 6 rfl; have o6f := R0.f 6 rfl; have o7c := R0.c 7 rfl; have o7f := R0.f 7 rfl
    have p0c := X1.c 0 rfl; have p1c := X1.c 1 rfl; have p2c := X1.c 2 rfl; have p3c := X1.c 3 rfl
    have q0c := X2.c 0 rfl; have q1c := X2.c 1 rfl; have q2c := X2.c 2 rfl; have q3c := X2.c 3 rfl
    go_wp2
    refine bodyPost_ret (v := .tuple #[.agg #[.int .u64 e3, .int .u64 e2, .int .u64 e1, .int .u64 e0, .int .u64 f3, .int .u64 f2, .int .u64 f1, .int .u64 f0], .bool true]) (by simp [results, Try.results26, go_sem, o0c, o1c, o2c, o3c, o4c, o5c, o6c, o7c]) rfl ?_
    refine ⟨by rw [HV.out], ?_⟩
    repeat' (refine Below.setCell ?_ (by simp; try omega) _)
    exact HB
  · have HV : Hid (rtV x y = .tuple #[.agg #[.int .u64 0, .int .u64 0, .int .u64 0, .int .u64 0, .int .u64 0, .int .u64 0, .int .u64 0, .int .u64 0], .bool false]) := by show _ = _; rw [HR.out, if_neg ht]
    cases t1
    · have tok : True := trivial
      have HB := T0.below
      have o0c := R0.c 0 rfl; have o0f := R0.f 0 rfl; have o1c := R0.c 1 rfl; have o1f := R0.f 1 rfl; have o2c := R0.c 2 rfl; have o2f := R0.f 2 rfl; have o3c := R0.c 3 rfl; have o3f := R0.f 3 rfl; have o4c := R0.c 4 rfl; have o4f := R0.f 4 rfl; have o5c := R0.c 5 rfl; have o5f := R0.f 5 rfl; have o6c := R0.c 6 rfl; have o6f := R0.f 6 rfl; have o7c := R0.c 7 rfl; have o7f := R0.f 7 rfl
      go_wp2
      refine bodyPost_ret (v := .tuple #[.agg #[.int .u64 0, .int .u64 0, .int .u64 0, .int .u64 0, .int .u64 0, .int .u64 0, .int .u64 0, .int .u64 0], .bool false]) (by simp [results, Try.results26, go_sem, o0c, o1c, o2c, o3c, o4c, o5c, o6c, o7c]) rfl ?_
      refine ⟨by rw [HV.out], ?_⟩
      repeat' (refine Below.setCell ?_ (by simp; try omega) _)
      exact HB
    · cases t2
      · have tok : True := trivial
        have HB := T0.below
        have o0c := R0.c 0 rfl; have o0f := R0.f 0 rfl; have o1c := R0.c 1 rfl; have o1f := R0.f 1 rfl; have o2c := R0.c 2 rfl; have o2f := R0.f 2 rfl; have o3c := R0.c 3 rfl; have o3f := R0.f 3 rfl; have o4c := R0.c 4 rfl; have o4f := R0.f 4 rfl; have o5c := R0.c 5 rfl; have o5f := R0.f 5 rfl; have o6c := R0.c 6 rfl; have o6f := R0.f 6 rfl; have o7c := R0.c 7 rfl; have o7f := R0.f 7 rfl
        go_wp2
        refine bodyPost_ret (v := .tuple #[.agg #[.int .u64 0, .int .u64 0, .int .u64 0, .int .u64 0, .int .u64 0, .int .u64 0, .int .u64 0, .int .u64 0], .bool false]) (by simp [results, Try.results26, go_sem, o0c, o1c, o2c, o3c, o4c, o5c, o6c, o7c]) rfl ?_
        refine ⟨by rw [HV.out], ?_⟩
        repeat' (refine Below.setCell ?_ (by simp; try omega) _)
        exact HB
      · exact absurd ⟨rfl, rfl⟩ ht
theorem ro_args (a3 a2 a1 a0 b3 b2 b1 b0 : Int) (w : World) : ArgsB w (((w.alloc (.cells #[.int .u64 a3, .int .u64 a2, .int .u64 a1, .int .u64 a0] 26)).alloc (.cells #[.int .u64 b3, .int .u64 b2, .int .u64 b1, .int .u64 b0] 26)).alloc (.cells #[.int .u64 0, .int .u64 0, .int .u64 0, .int .u64 0, .int .u64 0, .int .u64 0, .int .u64 0, .int .u64 0] 28)) [[.int .u64 a3, .int .u64 a2, .int .u64 a1, .int .u64 a0], [.int .u64 b3, .int .u64 b2, .int .u64 b1, .int .u64 b0]] := by
  refine ⟨(((Below.refl _ _).alloc (Nat.le_refl _) _).alloc (by simp) _).alloc (by simp; omega) _, fun j vs hj => ?_⟩
  match j, hj with
  | 0, hj => cases hj; exact ((Blk.new w [.int .u64 a3, .int .u64 a2, .int .u64 a1, .int .u64 a0] 26 rfl).alloc _).alloc _
  | 1, hj => cases hj; exact (Blk.new (w.alloc (.cells #[.int .u64 a3, .int .u64 a2, .int .u64 a1, .int .u64 a0] 26)) [.int .u64 b3, .int .u64 b2, .int .u64 b1, .int .u64 b0] 26 (by simp)).alloc _
  | j + 2, hj => simp at hj
set_option maxRecDepth 100000 in
set_option maxHeartbeats 4000000 in
theorem specRatioOf_any (a3 a2 a1 a0 b3 b2 b1 b0 : Int) (ha3 : Word a3) (ha2 : Word a2) (ha1 : Word a1) (ha0 : Word a0) (hb3 : Word b3) (hb2 : Word b2) (hb1 : Word b1) (hb0 : Word b0) (w : World) : Calls Try.prog 43 #[.agg #[.int .u64 a3, .int .u64 a2, .int .u64 a1, .int .u64 a0], .agg #[.int .u64 b3, .int .u64 b2, .int .u64 b1, .int .u64 b0]] w (VP (ratV (sw a3 a2 a1 a0) (sw b3 b2 b1 b0)) w) := by
  have T0 := ro_args a3 a2 a1 a0 b3 b2 b1 b0 w
  have R0 : Blk (((w.alloc (.cells #[.int .u64 a3, .int .u64 a2, .int .u64 a1, .int .u64 a0] 26)).alloc (.cells #[.int .u64 b3, .int .u64 b2, .int .u64 b1, .int .u64 b0] 26)).alloc (.cells #[.int .u64 0, .int .u64 0, .int .u64 0, .int .u64 0, .int .u64 0, .int .u64 0, .int .u64 0, .int .u64 0] 28)) (w.heap.size + 1 + 1) [.int .u64 0, .int .u64 0, .int .u64 0, .int .u64 0, .int .u64 0, .int .u64 0, .int .u64 0, .int .u64 0] := Blk.new _ [.int .u64 0, .int .u64 0, .int .u64 0, .int .u64 0, .int .u64 0, .int .u64 0, .int .u64 0, .int .u64 0] _ (by simp)
  have EZ := eqZ4 b3 b2 b1 b0
  rw [zero4 hb3 hb2 hb1 hb0] at EZ
  by_cases hb : (sw b3 b2 b1 b0) = 0
  · have HV : Hid (ratV (sw a3 a2 a1 a0) (sw b3 b2 b1 b0) = .tuple #[.agg #[.int .u64 0, .int .u64 0, .int .u64 0, .int .u64 0, .int .u64 0, .int .u64 0, .int .u64 0, .int .u64 0], .bool false]) := by show _ = _; unfold ratV; rw [if_neg (by rintro ⟨h, -⟩; exact h hb)]
    simp only [hb, decide_true] at EZ
    go_enter Try.func43, Try.ntmps43
    go_upto_region 2 with fail
    generalize (((w.alloc (.cells #[.int .u64 a3, .int .u64 a2, .int .u64 a1, .int .u64 a0] 26)).alloc (.cells #[.int .u64 b3, .int .u64 b2, .int .u64 b1, .int .u64 b0] 26)).alloc (.cells #[.int .u64 0, .int .u64 0, .int .u64 0, .int .u64 0, .int .u64 0, .int .u64 0, .int .u64 0, .int .u64 0] 28)) = W at *
    have HB := T0.below
    have o0c := R0.c 0 rfl; have o0f := R0.f 0 rfl; have o1c := R0.c 1 rfl; have o1f := R0.f 1 rfl; have o2c := R0.c 2 rfl; have o2f := R0.f 2 rfl; have o3c := R0.c 3 rfl; have o3f := R0.f 3 rfl; have o4c := R0.c 4 rfl; have o4f := R0.f 4 rfl; have o5c := R0.c 5 rfl; have o5f := R0.f 5 rfl; have o6c := R0.c 6 rfl; have o6f := R0.f 6 rfl; have o7c := R0.c 7 rfl; have o7f := R0.f 7 rfl
    go_wp2
    refine bodyPost_ret (v := .tuple #[.agg #[.int .u64 0, .int .u64 0, .int .u64 0, .int .u64 0, .int .u64 0, .int .u64 0, .int .u64 0, .int .u64 0], .bool false]) (by simp [results, Try.results43, go_sem, o0c, o1c, o2c, o3c, o4c, o5c, o6c, o7c]) rfl ?_
    refine ⟨by rw [HV.out], ?_⟩
    repeat' (refine Below.setCell ?_ (by simp; try omega) _)
    exact HB
  · simp only [hb, decide_false] at EZ
    have FA := from_any a3 a2 a1 a0 ha3 ha2 ha1 ha0
    have FB := from_any b3 b2 b1 b0 hb3 hb2 hb1 hb0
    obtain ⟨z0, z1, z2, z3, z4, z5, z6, z7, t, hz⟩ := rtV_ex (lowN (sw a3 a2 a1 a0) (sw b3 b2 b1 b0)) (lowD (sw a3 a2 a1 a0) (sw b3 b2 b1 b0))
    have HV : Hid (ratV (sw a3 a2 a1 a0) (sw b3 b2 b1 b0) = .tuple #[.agg #[.int .u64 z0, .int .u64 z1, .int .u64 z2, .int .u64 z3, .int .u64 z4, .int .u64 z5, .int .u64 z6, .int .u64 z7], .bool t]) := (ratV_rt hb).trans hz
    have tok1 : True := trivial
    go_enter Try.func43, Try.ntmps43
    go_upto_region 3 with fail
    generalize (((w.alloc (.cells #[.int .u64 a3, .int .u64 a2, .int .u64 a1, .int .u64 a0] 26)).alloc (.cells #[.int .u64 b3, .int .u64 b2, .int .u64 b1, .int .u64 b0] 26)).alloc (.cells #[.int .u64 0, .int .u64 0, .int .u64 0, .int .u64 0, .int .u64 0, .int .u64 0, .int .u64 0, .int .u64 0] 28)) = W at *
    have hlw := (T0.b 1 rfl).lt
    have hlr := R0.lt
    go_region_held3 (fun w' => w'.cell? ⟨w.heap.size, 0, none⟩ = some (.int .u64 a3) ∧ w'.cell? ⟨w.heap.size, 1, none⟩ = some (.int .u64 a2) ∧ w'.cell? ⟨w.heap.size, 2, none⟩ = some (.int .u64 a1) ∧ w'.cell? ⟨w.heap.size, 3, none⟩ = some (.int .u64 a0) ∧ w'.cell? ⟨w.heap.size + 1, 0, none⟩ = some (.int .u64 b3) ∧ w'.cell? ⟨w.heap.size + 1, 1, none⟩ = some (.int .u64 b2) ∧ w'.cell? ⟨w.heap.size + 1, 2, none⟩ = some (.int .u64 b1) ∧ w'.cell? ⟨w.heap.size + 1, 3, none⟩ = some (.int .u64 b0)) ((refine sd_cells (cs := []) ?_ <;> repeat (first | (with_reducible exact T0) | (with_reducible refine ArgsB.drew ?_) | (with_reducible refine ArgsB.set8g ?_ (by simp <;> omega) _ _ _ _ _ _ _ _)))) 
      (first
        | (go_at_call 61; have _t := tok1; refine (FA _).mono ?_; rintro e w1 ⟨s1, o1, n1, c1, d1, rfl, N1, hB⟩; (first | (have T1 : ArgsB w w1 [[.int .u64 a3, .int .u64 a2, .int .u64 a1, .int .u64 a0], [.int .u64 b3, .int .u64 b2, .int .u64 b1, .int .u64 b0]] := (by with_reducible exact T0.step hB); have tltw1 := (T0.b 1 rfl).lt; have lR0w1 := R0.lt; replace R0 := R0.step hB; skip) | (have T1 : ArgsB w w1 [[.int .u64 a3, .int .u64 a2, .int .u64 a1, .int .u64 a0], [.int .u64 b3, .int .u64 b2, .int .u64 b1, .int .u64 b0]] := (by with_reducible exact T0.drew.step hB); have tltw1 := (T0.b 1 rfl).lt; have lR0w1 := R0.lt; replace R0 := R0.drew.step hB; skip)); clear T0; have T0 := T1; clear T1; (try (replace N2 := N2.step hB)); clear hB tok1 _t)
        | (go_at_call 61; refine (FB _).mono ?_; rintro e w2 ⟨s2, o2, n2, c2, d2, rfl, N2, hB⟩; (first | (have T1 : ArgsB w w2 [[.int .u64 a3, .int .u64 a2, .int .u64 a1, .int .u64 a0], [.int .u64 b3, .int .u64 b2, .int .u64 b1, .int .u64 b0]] := (by with_reducible exact T0.step hB); have tltw2 := (T0.b 1 rfl).lt; have lR0w2 := R0.lt; replace R0 := R0.step hB; skip) | (have T1 : ArgsB w w2 [[.int .u64 a3, .int .u64 a2, .int .u64 a1, .int .u64 a0], [.int .u64 b3, .int .u64 b2, .int .u64 b1, .int .u64 b0]] := (by with_reducible exact T0.drew.step hB); have tltw2 := (T0.b 1 rfl).lt; have lR0w2 := R0.lt; replace R0 := R0.drew.step hB; skip)); clear T0; have T0 := T1; clear T1; (try (replace N1 := N1.step hB)); clear hB)
        | (go_at_call 58; refine (l2Make_any s1 o1 n1 c1 d1 s2 o2 n2 c2 d2 _ _ 8 (by omega) (by omega) _ N1 N2 hb).mono ?_; rintro e w3 ⟨s3, o3, n3, c3, d3, s4, o4, n4, c4, d4, rfl, N3, N4, hB⟩; (first | (have T1 : ArgsB w w3 [[.int .u64 a3, .int .u64 a2, .int .u64 a1, .int .u64 a0], [.int .u64 b3, .int .u64 b2, .int .u64 b1, .int .u64 b0]] := (by with_reducible exact T0.step hB); have tltw3 := (T0.b 1 rfl).lt; have lR0w3 := R0.lt; replace R0 := R0.step hB; skip) | (have T1 : ArgsB w w3 [[.int .u64 a3, .int .u64 a2, .int .u64 a1, .int .u64 a0], [.int .u64 b3, .int .u64 b2, .int .u64 b1, .int .u64 b0]] := (by with_reducible exact T0.drew.step hB); have tltw3 := (T0.b 1 rfl).lt; have lR0w3 := R0.lt; replace R0 := R0.drew.step hB; skip)); clear T0; have T0 := T1; clear T1; clear hB N1 N2)
        | (go_at_call 26; refine (l2Ratio_any s3 o3 n3 c3 d3 s4 o4 n4 c4 d4 _ _ _ (by omega) _ N3 N4).mono ?_; rw [hz]; rintro e w4 ⟨rfl, hB⟩; (first | (have T1 : ArgsB w w4 [[.int .u64 a3, .int .u64 a2, .int .u64 a1, .int .u64 a0], [.int .u64 b3, .int .u64 b2, .int .u64 b1, .int .u64 b0]] := (by with_reducible exact T0.step hB); have tltw4 := (T0.b 1 rfl).lt; have lR0w4 := R0.lt; replace R0 := R0.step hB; skip) | (have T1 : ArgsB w w4 [[.int .u64 a3, .int .u64 a2, .int .u64 a1, .int .u64 a0], [.int .u64 b3, .int .u64 b2, .int .u64 b1, .int .u64 b0]] := (by with_reducible exact T0.drew.step hB); have tltw4 := (T0.b 1 rfl).lt; have lR0w4 := R0.lt; replace R0 := R0.drew.step hB; skip)); clear T0; have T0 := T1; clear T1; have o0c := R0.c 0 rfl; have o0f := R0.f 0 rfl; have o1c := R0.c 1 rfl; have o1f := R0.f 1 rfl; have o2c := R0.c 2 rfl; have o2f := R0.f 2 rfl; have o3c := R0.c 3 rfl; have o3f := R0.f 3 rfl; have o4c := R0.c 4 rfl; have o4f := R0.f 4 rfl; have o5c := R0.c 5 rfl; have o5f := R0.f 5 rfl; have o6c := R0.c 6 rfl; have o6f := R0.f 6 rfl; have o7c := R0.c 7 rfl; have o7f := R0.f 7 rfl; have olt := R0.lt; clear hB N3 N4))
    all_goals have HB := T0.below
    all_goals clear T0
    all_goals go_wp2
    all_goals refine bodyPost_ret (v := .tuple #[.agg #[.int .u64 z0, .int .u64 z1, .int .u64 z2, .int .u64 z3, .int .u64 z4, .int .u64 z5, .int .u64 z6, .int .u64 z7], .bool t]) (by simp [results, Try.results43, go_sem, o0c, o1c, o2c, o3c, o4c, o5c, o6c, o7c]) rfl ?_
    all_goals refine ⟨by rw [HV.out], ?_⟩
    all_goals (try (with_reducible refine Below.drew ?_))
    all_goals repeat' (refine Below.setCell ?_ (by simp; try omega) _)
    all_goals exact HB
end Go.Proofs.Ytgeaklaocifhcaa

/- Sums of numbers of eight words, and that words tell a number. -/
namespace Go.Proofs.Ytgeaklaocifhcaa
open Go.RowKit
theorem sl_plus {x0 x1 x2 x3 x4 x5 x6 x7 y0 y1 y2 y3 y4 y5 y6 y7 : Int} {zs : List Int} {c : Int} (wx : Words [x0, x1, x2, x3, x4, x5, x6, x7]) (wy : Words [y0, y1, y2, y3, y4, y5, y6, y7]) (wz : Words zs) (hl : zs.length = 8) (c0 : 0 ≤ c) (c1 : c ≤ 1) (hv : val64 zs + c * pw64 8 = val64 [x0, x1, x2, x3, x4, x5, x6, x7] + val64 [y0, y1, y2, y3, y4, y5, y6, y7]) (hb : -6703903964971298549787012499102923063739682910296196688861780721860882015036773488400937149083451713845015929093243025426876941405973284973216824503042048 ≤ sl x0 x1 x2 x3 x4 x5 x6 x7 + sl y0 y1 y2 y3 y4 y5 y6 y7 ∧ sl x0 x1 x2 x3 x4 x5 x6 x7 + sl y0 y1 y2 y3 y4 y5 y6 y7 < 6703903964971298549787012499102923063739682910296196688861780721860882015036773488400937149083451713845015929093243025426876941405973284973216824503042048) : ∃ z0 z1 z2 z3 z4 z5 z6 z7, zs = [z0, z1, z2, z3, z4, z5, z6, z7] ∧ sl z0 z1 z2 z3 z4 z5 z6 z7 = sl x0 x1 x2 x3 x4 x5 x6 x7 + sl y0 y1 y2 y3 y4 y5 y6 y7 := by
  obtain ⟨z0, z1, z2, z3, z4, z5, z6, z7, rfl⟩ := list8' hl
  refine ⟨z0, z1, z2, z3, z4, z5, z6, z7, rfl, ?_⟩
  obtain ⟨t1, t2, t3⟩ := sl_top wz
  obtain ⟨u1, u2, u3⟩ := sl_top wx
  obtain ⟨v1, v2, v3⟩ := sl_top wy
  rw [pw64_8] at hv
  unfold sl at hb ⊢
  generalize val64 [z0, z1, z2, z3, z4, z5, z6, z7] = Z at *
  generalize val64 [x0, x1, x2, x3, x4, x5, x6, x7] = X at *
  generalize val64 [y0, y1, y2, y3, y4, y5, y6, y7] = Y at *
  simp only [t1, u1, v1] at hb ⊢
  clear t1 u1 v1
  by_cases hz : Z < 6703903964971298549787012499102923063739682910296196688861780721860882015036773488400937149083451713845015929093243025426876941405973284973216824503042048 <;> by_cases hx : X < 6703903964971298549787012499102923063739682910296196688861780721860882015036773488400937149083451713845015929093243025426876941405973284973216824503042048 <;> by_cases hy : Y < 6703903964971298549787012499102923063739682910296196688861780721860882015036773488400937149083451713845015929093243025426876941405973284973216824503042048 <;> simp only [hz, hx, hy, if_true, if_false] at hb ⊢ <;> (obtain rfl | rfl : c = 0 ∨ c = 1 := by omega) <;> omega
theorem plusS_any (x0 x1 x2 x3 x4 x5 x6 x7 y0 y1 y2 y3 y4 y5 y6 y7 : Int) (wx : Words [x0, x1, x2, x3, x4, x5, x6, x7]) (wy : Words [y0, y1, y2, y3, y4, y5, y6, y7]) (z : Int) (hz : sl x0 x1 x2 x3 x4 x5 x6 x7 + sl y0 y1 y2 y3 y4 y5 y6 y7 = z) (hb : -6703903964971298549787012499102923063739682910296196688861780721860882015036773488400937149083451713845015929093243025426876941405973284973216824503042048 ≤ z ∧ z < 6703903964971298549787012499102923063739682910296196688861780721860882015036773488400937149083451713845015929093243025426876941405973284973216824503042048) (w : World) : Calls Try.prog 47 #[L8 x0 x1 x2 x3 x4 x5 x6 x7, L8 y0 y1 y2 y3 y4 y5 y6 y7] w (TimesP z w) := by
  refine (plus8 x0 x1 x2 x3 x4 x5 x6 x7 y0 y1 y2 y3 y4 y5 y6 y7 wx wy w).mono ?_
  rintro e w1 ⟨zs, c, rfl, q1, q2, q3, q4, q5, hB⟩
  have z1' : zs.length = 8 := q1
  have z5' : val64 zs + c * pw64 8 = val64 [x0, x1, x2, x3, x4, x5, x6, x7] + val64 [y0, y1, y2, y3, y4, y5, y6, y7] := q5
  obtain ⟨z0, z1, z2, z3, z4, z5, z6, z7, rfl, hv⟩ := sl_plus wx wy q2 z1' q3 q4 z5' (by rw [hz]; exact hb)
  exact ⟨z0, z1, z2, z3, z4, z5, z6, z7, rfl, q2, hv.trans hz, hB⟩
theorem sl_inj {x0 x1 x2 x3 x4 x5 x6 x7 y0 y1 y2 y3 y4 y5 y6 y7 : Int} (wx : Words [x0, x1, x2, x3, x4, x5, x6, x7]) (wy : Words [y0, y1, y2, y3, y4, y5, y6, y7]) (h : sl x0 x1 x2 x3 x4 x5 x6 x7 = sl y0 y1 y2 y3 y4 y5 y6 y7) : [x0, x1, x2, x3, x4, x5, x6, x7] = [y0, y1, y2, y3, y4, y5, y6, y7] := by
  refine val64_inj wx wy rfl ?_
  obtain ⟨u1, u2, u3⟩ := sl_top wx
  obtain ⟨v1, v2, v3⟩ := sl_top wy
  revert h
  unfold sl
  split <;> split <;> intro h <;> omega
end Go.Proofs.Ytgeaklaocifhcaa

/- The program's sums, products and quotients of fractions. -/
namespace Go.Proofs.Ytgeaklaocifhcaa
open Go.RowKit
/-- A fraction of two longs. -/
def FracP (n d : Int) (w : World) (e : Ending) (w' : World) : Prop :=
  ∃ x0 x1 x2 x3 x4 x5 x6 x7 y0 y1 y2 y3 y4 y5 y6 y7 : Int, e = .returned (.agg #[.int .u64 x0, .int .u64 x1, .int .u64 x2, .int .u64 x3, .int .u64 x4, .int .u64 x5, .int .u64 x6, .int .u64 x7, .int .u64 y0, .int .u64 y1, .int .u64 y2, .int .u64 y3, .int .u64 y4, .int .u64 y5, .int .u64 y6, .int .u64 y7]) ∧ Words [x0, x1, x2, x3, x4, x5, x6, x7] ∧ Words [y0, y1, y2, y3, y4, y5, y6, y7] ∧ sl x0 x1 x2 x3 x4 x5 x6 x7 = n ∧ sl y0 y1 y2 y3 y4 y5 y6 y7 = d ∧ Below w.heap.size w w'
theorem rs_args (a3 a2 a1 a0 b3 b2 b1 b0 c3 c2 c1 c0 d3 d2 d1 d0 : Int) (T : TypeId) (zs : List Value) (w : World) : ArgsB w (((w.alloc (.cells #[.int .u64 a3, .int .u64 a2, .int .u64 a1, .int .u64 a0, .int .u64 b3, .int .u64 b2, .int .u64 b1, .int .u64 b0] 28)).alloc (.cells #[.int .u64 c3, .int .u64 c2, .int .u64 c1, .int .u64 c0, .int .u64 d3, .int .u64 d2, .int .u64 d1, .int .u64 d0] 28)).alloc (.cells zs.toArray T)) [[.int .u64 a3, .int .u64 a2, .int .u64 a1, .int .u64 a0, .int .u64 b3, .int .u64 b2, .int .u64 b1, .int .u64 b0], [.int .u64 c3, .int .u64 c2, .int .u64 c1, .int .u64 c0, .int .u64 d3, .int .u64 d2, .int .u64 d1, .int .u64 d0]] := by
  refine ⟨(((Below.refl _ _).alloc (Nat.le_refl _) _).alloc (by simp) _).alloc (by simp; omega) _, fun j vs hj => ?_⟩
  match j, hj with
  | 0, hj => cases hj; exact ((Blk.new w [.int .u64 a3, .int .u64 a2, .int .u64 a1, .int .u64 a0, .int .u64 b3, .int .u64 b2, .int .u64 b1, .int .u64 b0] 28 rfl).alloc _).alloc _
  | 1, hj => cases hj; exact (Blk.new (w.alloc (.cells #[.int .u64 a3, .int .u64 a2, .int .u64 a1, .int .u64 a0, .int .u64 b3, .int .u64 b2, .int .u64 b1, .int .u64 b0] 28)) [.int .u64 c3, .int .u64 c2, .int .u64 c1, .int .u64 c0, .int .u64 d3, .int .u64 d2, .int .u64 d1, .int .u64 d0] 28 (by simp)).alloc _
  | j + 2, hj => simp at hj
theorem Blk.stored16 {W : World} {g : Nat} {z0 z1 z2 z3 z4 z5 z6 z7 z8 z9 z10 z11 z12 z13 z14 z15 : Value} (G : Blk W g [z0, z1, z2, z3, z4, z5, z6, z7, z8, z9, z10, z11, z12, z13, z14, z15]) (v0 v1 v2 v3 v4 v5 v6 v7 v8 v9 v10 v11 v12 v13 v14 v15 : Value) : Blk ((((((((((((((((W.setCell ⟨g, 0, none⟩ v0).setCell ⟨g, 1, none⟩ v1).setCell ⟨g, 2, none⟩ v2).setCell ⟨g, 3, none⟩ v3).setCell ⟨g, 4, none⟩ v4).setCell ⟨g, 5, none⟩ v5).setCell ⟨g, 6, none⟩ v6).setCell ⟨g, 7, none⟩ v7).setCell ⟨g, 8, none⟩ v8).setCell ⟨g, 9, none⟩ v9).setCell ⟨g, 10, none⟩ v10).setCell ⟨g, 11, none⟩ v11).setCell ⟨g, 12, none⟩ v12).setCell ⟨g, 13, none⟩ v13).setCell ⟨g, 14, none⟩ v14).setCell ⟨g, 15, none⟩ v15) g [v0, v1, v2, v3, v4, v5, v6, v7, v8, v9, v10, v11, v12, v13, v14, v15] :=
  ((((((((((((((((G.setI 0 (by simp) v0).setI 1 (by simp) v1).setI 2 (by simp) v2).setI 3 (by simp) v3).setI 4 (by simp) v4).setI 5 (by simp) v5).setI 6 (by simp) v6).setI 7 (by simp) v7).setI 8 (by simp) v8).setI 9 (by simp) v9).setI 10 (by simp) v10).setI 11 (by simp) v11).setI 12 (by simp) v12).setI 13 (by simp) v13).setI 14 (by simp) v14).setI 15 (by simp) v15)
theorem below_set16 {B g : Nat} {w W : World} {v0 v1 v2 v3 v4 v5 v6 v7 v8 v9 v10 v11 v12 v13 v14 v15 : Value} (hg : B ≤ g) (h : Below B w W) : Below B w ((((((((((((((((W.setCell ⟨g, 0, none⟩ v0).setCell ⟨g, 1, none⟩ v1).setCell ⟨g, 2, none⟩ v2).setCell ⟨g, 3, none⟩ v3).setCell ⟨g, 4, none⟩ v4).setCell ⟨g, 5, none⟩ v5).setCell ⟨g, 6, none⟩ v6).setCell ⟨g, 7, none⟩ v7).setCell ⟨g, 8, none⟩ v8).setCell ⟨g, 9, none⟩ v9).setCell ⟨g, 10, none⟩ v10).setCell ⟨g, 11, none⟩ v11).setCell ⟨g, 12, none⟩ v12).setCell ⟨g, 13, none⟩ v13).setCell ⟨g, 14, none⟩ v14).setCell ⟨g, 15, none⟩ v15) := ((((((((((((((((h.setCell (by exact hg) _).setCell (by exact hg) _).setCell (by exact hg) _).setCell (by exact hg) _).setCell (by exact hg) _).setCell (by exact hg) _).setCell (by exact hg) _).setCell (by exact hg) _).setCell (by exact hg) _).setCell (by exact hg) _).setCell (by exact hg) _).setCell (by exact hg) _).setCell (by exact hg) _).setCell (by exact hg) _).setCell (by exact hg) _).setCell (by exact hg) _)
theorem long_ex (z : Int) (h0 : -6703903964971298549787012499102923063739682910296196688861780721860882015036773488400937149083451713845015929093243025426876941405973284973216824503042048 ≤ z) (h1 : z < 6703903964971298549787012499102923063739682910296196688861780721860882015036773488400937149083451713845015929093243025426876941405973284973216824503042048) : ∃ m0 m1 m2 m3 m4 m5 m6 m7 : Int, Words [m0, m1, m2, m3, m4, m5, m6, m7] ∧ sl m0 m1 m2 m3 m4 m5 m6 m7 = z := by
  by_cases hz : 0 ≤ z
  · obtain ⟨m0, m1, m2, m3, m4, m5, m6, m7, wm, hv⟩ := words8_ex z hz (by omega)
    refine ⟨m0, m1, m2, m3, m4, m5, m6, m7, wm, ?_⟩
    obtain ⟨u1, u2, u3⟩ := sl_top wm
    unfold sl
    rw [if_pos (u1.2 (by omega)), hv]
    omega
  · obtain ⟨m0, m1, m2, m3, m4, m5, m6, m7, wm, hv⟩ := words8_ex (z + 13407807929942597099574024998205846127479365820592393377723561443721764030073546976801874298166903427690031858186486050853753882811946569946433649006084096) (by omega) (by omega)
    refine ⟨m0, m1, m2, m3, m4, m5, m6, m7, wm, ?_⟩
    obtain ⟨u1, u2, u3⟩ := sl_top wm
    unfold sl
    rw [if_neg (by rw [u1]; omega), hv]
    omega
theorem times_VP {z : Int} {m0 m1 m2 m3 m4 m5 m6 m7 : Int} (wm : Words [m0, m1, m2, m3, m4, m5, m6, m7]) (hm : sl m0 m1 m2 m3 m4 m5 m6 m7 = z) {w w' : World} {e : Ending} (h : TimesP z w e w') : VP (L8 m0 m1 m2 m3 m4 m5 m6 m7) w e w' := by
  obtain ⟨z0, z1, z2, z3, z4, z5, z6, z7, rfl, wz, hz, hB⟩ := h
  have e := sl_inj wz wm (hz.trans hm.symm)
  simp only [List.cons.injEq] at e
  obtain ⟨rfl, rfl, rfl, rfl, rfl, rfl, rfl, rfl, -⟩ := e
  exact ⟨rfl, hB⟩
theorem sw_prod {a3 a2 a1 a0 b3 b2 b1 b0 : Int} (h3 : Word a3) (h2 : Word a2) (h1 : Word a1) (h0 : Word a0) (k3 : Word b3) (k2 : Word b2) (k1 : Word b1) (k0 : Word b0) : -3351951982485649274893506249551461531869841455148098344430890360930441007518386744200468574541725856922507964546621512713438470702986642486608412251521024 ≤ (sw a3 a2 a1 a0) * (sw b3 b2 b1 b0) ∧ (sw a3 a2 a1 a0) * (sw b3 b2 b1 b0) ≤ 3351951982485649274893506249551461531869841455148098344430890360930441007518386744200468574541725856922507964546621512713438470702986642486608412251521024 := by
  have s1 := sw_size h3 h2 h1 h0
  have s2 := sw_size k3 k2 k1 k0
  generalize (sw a3 a2 a1 a0) = x at *
  generalize (sw b3 b2 b1 b0) = y at *
  have e : (x * y).natAbs = x.natAbs * y.natAbs := Int.natAbs_mul x y
  have e2 : ((x.natAbs * y.natAbs : Nat) : Int) ≤ 57896044618658097711785492504343953926634992332820282019728792003956564819968 * 57896044618658097711785492504343953926634992332820282019728792003956564819968 := by
    rw [Int.natCast_mul]
    exact Int.mul_le_mul s1 s2 (by omega) (by omega)
  omega
set_option maxRecDepth 100000 in
set_option maxHeartbeats 2000000 in
theorem over_any (a3 a2 a1 a0 b3 b2 b1 b0 c3 c2 c1 c0 d3 d2 d1 d0 : Int) (ha3 : Word a3) (ha2 : Word a2) (ha1 : Word a1) (ha0 : Word a0) (hb3 : Word b3) (hb2 : Word b2) (hb1 : Word b1) (hb0 : Word b0) (hc3 : Word c3) (hc2 : Word c2) (hc1 : Word c1) (hc0 : Word c0) (hd3 : Word d3) (hd2 : Word d2) (hd1 : Word d1) (hd0 : Word d0) (w : World) : Calls Try.prog 32 #[Rt a3 a2 a1 a0 b3 b2 b1 b0, Rt c3 c2 c1 c0 d3 d2 d1 d0] w (FracP ((sw a3 a2 a1 a0) * (sw d3 d2 d1 d0)) ((sw c3 c2 c1 c0) * (sw b3 b2 b1 b0)) w) := by
  have T0 := rs_args a3 a2 a1 a0 b3 b2 b1 b0 c3 c2 c1 c0 d3 d2 d1 d0 49 [.int .u64 0, .int .u64 0, .int .u64 0, .int .u64 0, .int .u64 0, .int .u64 0, .int .u64 0, .int .u64 0, .int .u64 0, .int .u64 0, .int .u64 0, .int .u64 0, .int .u64 0, .int .u64 0, .int .u64 0, .int .u64 0] w
  have R0 : Blk (((w.alloc (.cells #[.int .u64 a3, .int .u64 a2, .int .u64 a1, .int .u64 a0, .int .u64 b3, .int .u64 b2, .int .u64 b1, .int .u64 b0] 28)).alloc (.cells #[.int .u64 c3, .int .u64 c2, .int .u64 c1, .int .u64 c0, .int .u64 d3, .int .u64 d2, .int .u64 d1, .int .u64 d0] 28)).alloc (.cells #[.int .u64 0, .int .u64 0, .int .u64 0, .int .u64 0, .int .u64 0, .int .u64 0, .int .u64 0, .int .u64 0, .int .u64 0, .int .u64 0, .int .u64 0, .int .u64 0, .int .u64 0, .int .u64 0, .int .u64 0, .int .u64 0] 49)) (w.heap.size + 1 + 1) [.int .u64 0, .int .u64 0, .int .u64 0, .int .u64 0, .int .u64 0, .int .u64 0, .int .u64 0, .int .u64 0, .int .u64 0, .int .u64 0, .int .u64 0, .int .u64 0, .int .u64 0, .int .u64 0, .int .u64 0, .int .u64 0] := Blk.new _ [.int .u64 0, .int .u64 0, .int .u64 0, .int .u64 0, .int .u64 0, .int .u64 0, .int .u64 0, .int .u64 0, .int .u64 0, .int .u64 0, .int .u64 0, .int .u64 0, .int .u64 0, .int .u64 0, .int .u64 0, .int .u64 0] _ (by simp)
  obtain ⟨m0, m1, m2, m3, m4, m5, m6, m7, wm, hm⟩ := long_ex ((sw a3 a2 a1 a0) * (sw d3 d2 d1 d0)) (by have := sw_prod ha3 ha2 ha1 ha0 hd3 hd2 hd1 hd0; omega) (by have := sw_prod ha3 ha2 ha1 ha0 hd3 hd2 hd1 hd0; omega)
  obtain ⟨n0, n1, n2, n3, n4, n5, n6, n7, wn, hn⟩ := long_ex ((sw c3 c2 c1 c0) * (sw b3 b2 b1 b0)) (by have := sw_prod hc3 hc2 hc1 hc0 hb3 hb2 hb1 hb0; omega) (by have := sw_prod hc3 hc2 hc1 hc0 hb3 hb2 hb1 hb0; omega)
  have C1 := fun w => (cross_any a3 a2 a1 a0 b3 b2 b1 b0 c3 c2 c1 c0 d3 d2 d1 d0 ha3 ha2 ha1 ha0 hd3 hd2 hd1 hd0 w).mono fun _ _ => times_VP wm hm
  have C2 := fun w => (cross_any c3 c2 c1 c0 d3 d2 d1 d0 a3 a2 a1 a0 b3 b2 b1 b0 hc3 hc2 hc1 hc0 hb3 hb2 hb1 hb0 w).mono fun _ _ => times_VP wn hn
  have tok1 : True := trivial
  go_enter Try.func32, Try.ntmps32
  go_upto_region 1 with fail
  generalize (((w.alloc (.cells #[.int .u64 a3, .int .u64 a2, .int .u64 a1, .int .u64 a0, .int .u64 b3, .int .u64 b2, .int .u64 b1, .int .u64 b0] 28)).alloc (.cells #[.int .u64 c3, .int .u64 c2, .int .u64 c1, .int .u64 c0, .int .u64 d3, .int .u64 d2, .int .u64 d1, .int .u64 d0] 28)).alloc (.cells #[.int .u64 0, .int .u64 0, .int .u64 0, .int .u64 0, .int .u64 0, .int .u64 0, .int .u64 0, .int .u64 0, .int .u64 0, .int .u64 0, .int .u64 0, .int .u64 0, .int .u64 0, .int .u64 0, .int .u64 0, .int .u64 0] 49)) = W at *
  have hlw := (T0.b 1 rfl).lt
  have hlr := R0.lt
  go_region_held3 (fun w' => w'.cell? ⟨w.heap.size, 0, none⟩ = some (.int .u64 a3) ∧ w'.cell? ⟨w.heap.size, 1, none⟩ = some (.int .u64 a2) ∧ w'.cell? ⟨w.heap.size, 2, none⟩ = some (.int .u64 a1) ∧ w'.cell? ⟨w.heap.size, 3, none⟩ = some (.int .u64 a0) ∧ w'.cell? ⟨w.heap.size, 4, none⟩ = some (.int .u64 b3) ∧ w'.cell? ⟨w.heap.size, 5, none⟩ = some (.int .u64 b2) ∧ w'.cell? ⟨w.heap.size, 6, none⟩ = some (.int .u64 b1) ∧ w'.cell? ⟨w.heap.size, 7, none⟩ = some (.int .u64 b0) ∧ w'.cell? ⟨w.heap.size + 1, 0, none⟩ = some (.int .u64 c3) ∧ w'.cell? ⟨w.heap.size + 1, 1, none⟩ = some (.int .u64 c2) ∧ w'.cell? ⟨w.heap.size + 1, 2, none⟩ = some (.int .u64 c1) ∧ w'.cell? ⟨w.heap.size + 1, 3, none⟩ = some (.int .u64 c0) ∧ w'.cell? ⟨w.heap.size + 1, 4, none⟩ = some (.int .u64 d3) ∧ w'.cell? ⟨w.heap.size + 1, 5, none⟩ = some (.int .u64 d2) ∧ w'.cell? ⟨w.heap.size + 1, 6, none⟩ = some (.int .u64 d1) ∧ w'.cell? ⟨w.heap.size + 1, 7, none⟩ = some (.int .u64 d0)) ((refine rc_cells ?_ <;> repeat (first | (with_reducible exact T0) | (with_reducible refine ArgsB.drew ?_) | (with_reducible refine ArgsB.set ?_ (by simp <;> omega) _))))
    (first
        | (go_at_call 34; have _t := tok1; refine (C1 _).mono ?_; rintro e w1 ⟨rfl, hB⟩; (first | (have T1 : ArgsB w w1 [[.int .u64 a3, .int .u64 a2, .int .u64 a1, .int .u64 a0, .int .u64 b3, .int .u64 b2, .int .u64 b1, .int .u64 b0], [.int .u64 c3, .int .u64 c2, .int .u64 c1, .int .u64 c0, .int .u64 d3, .int .u64 d2, .int .u64 d1, .int .u64 d0]] := (by with_reducible exact T0.step hB); have tltw1 := (T0.b 1 rfl).lt; have lR0w1 := R0.lt; replace R0 := R0.step hB; skip) | (have T1 : ArgsB w w1 [[.int .u64 a3, .int .u64 a2, .int .u64 a1, .int .u64 a0, .int .u64 b3, .int .u64 b2, .int .u64 b1, .int .u64 b0], [.int .u64 c3, .int .u64 c2, .int .u64 c1, .int .u64 c0, .int .u64 d3, .int .u64 d2, .int .u64 d1, .int .u64 d0]] := (by with_reducible exact T0.drew.step hB); have tltw1 := (T0.b 1 rfl).lt; have lR0w1 := R0.lt; replace R0 := R0.drew.step hB; skip)); clear T0; have T0 := T1; clear T1; clear hB tok1 _t)
        | (go_at_call 34; refine (C2 _).mono ?_; rintro e w2 ⟨rfl, hB⟩; (first | (have T1 : ArgsB w w2 [[.int .u64 a3, .int .u64 a2, .int .u64 a1, .int .u64 a0, .int .u64 b3, .int .u64 b2, .int .u64 b1, .int .u64 b0], [.int .u64 c3, .int .u64 c2, .int .u64 c1, .int .u64 c0, .int .u64 d3, .int .u64 d2, .int .u64 d1, .int .u64 d0]] := (by with_reducible exact T0.step hB); have tltw2 := (T0.b 1 rfl).lt; have lR0w2 := R0.lt; replace R0 := R0.step hB; skip) | (have T1 : ArgsB w w2 [[.int .u64 a3, .int .u64 a2, .int .u64 a1, .int .u64 a0, .int .u64 b3, .int .u64 b2, .int .u64 b1, .int .u64 b0], [.int .u64 c3, .int .u64 c2, .int .u64 c1, .int .u64 c0, .int .u64 d3, .int .u64 d2, .int .u64 d1, .int .u64 d0]] := (by with_reducible exact T0.drew.step hB); have tltw2 := (T0.b 1 rfl).lt; have lR0w2 := R0.lt; replace R0 := R0.drew.step hB; skip)); clear T0; have T0 := T1; clear T1; have o0c := R0.c 0 rfl; have o0f := R0.f 0 rfl; have o1c := R0.c 1 rfl; have o1f := R0.f 1 rfl; have o2c := R0.c 2 rfl; have o2f := R0.f 2 rfl; have o3c := R0.c 3 rfl; have o3f := R0.f 3 rfl; have o4c := R0.c 4 rfl; have o4f := R0.f 4 rfl; have o5c := R0.c 5 rfl; have o5f := R0.f 5 rfl; have o6c := R0.c 6 rfl; have o6f := R0.f 6 rfl; have o7c := R0.c 7 rfl; have o7f := R0.f 7 rfl; have o8c := R0.c 8 rfl; have o8f := R0.f 8 rfl; have o9c := R0.c 9 rfl; have o9f := R0.f 9 rfl; have o10c := R0.c 10 rfl; have o10f := R0.f 10 rfl; have o11c := R0.c 11 rfl; have o11f := R0.f 11 rfl; have o12c := R0.c 12 rfl; have o12f := R0.f 12 rfl; have o13c := R0.c 13 rfl; have o13f := R0.f 13 rfl; have o14c := R0.c 14 rfl; have o14f := R0.f 14 rfl; have o15c := R0.c 15 rfl; have o15f := R0.f 15 rfl; have olt := R0.lt; clear hB ))
  all_goals have R1 := R0.stored16 (.int .u64 m0) (.int .u64 m1) (.int .u64 m2) (.int .u64 m3) (.int .u64 m4) (.int .u64 m5) (.int .u64 m6) (.int .u64 m7) (.int .u64 n0) (.int .u64 n1) (.int .u64 n2) (.int .u64 n3) (.int .u64 n4) (.int .u64 n5) (.int .u64 n6) (.int .u64 n7)
  all_goals have HB : Below w.heap.size w ((((((((((((((((w2.setCell ⟨w.heap.size + 1 + 1, 0, none⟩ (.int .u64 m0)).setCell ⟨w.heap.size + 1 + 1, 1, none⟩ (.int .u64 m1)).setCell ⟨w.heap.size + 1 + 1, 2, none⟩ (.int .u64 m2)).setCell ⟨w.heap.size + 1 + 1, 3, none⟩ (.int .u64 m3)).setCell ⟨w.heap.size + 1 + 1, 4, none⟩ (.int .u64 m4)).setCell ⟨w.heap.size + 1 + 1, 5, none⟩ (.int .u64 m5)).setCell ⟨w.heap.size + 1 + 1, 6, none⟩ (.int .u64 m6)).setCell ⟨w.heap.size + 1 + 1, 7, none⟩ (.int .u64 m7)).setCell ⟨w.heap.size + 1 + 1, 8, none⟩ (.int .u64 n0)).setCell ⟨w.heap.size + 1 + 1, 9, none⟩ (.int .u64 n1)).setCell ⟨w.heap.size + 1 + 1, 10, none⟩ (.int .u64 n2)).setCell ⟨w.heap.size + 1 + 1, 11, none⟩ (.int .u64 n3)).setCell ⟨w.heap.size + 1 + 1, 12, none⟩ (.int .u64 n4)).setCell ⟨w.heap.size + 1 + 1, 13, none⟩ (.int .u64 n5)).setCell ⟨w.heap.size + 1 + 1, 14, none⟩ (.int .u64 n6)).setCell ⟨w.heap.size + 1 + 1, 15, none⟩ (.int .u64 n7)) := below_set16 (by omega) T0.below
  all_goals clear T0 R0 o0c o0f o1c o1f o2c o2f o3c o3f o4c o4f o5c o5f o6c o6f o7c o7f o8c o8f o9c o9f o10c o10f o11c o11f o12c o12f o13c o13f o14c o14f o15c o15f olt
  all_goals generalize ((((((((((((((((w2.setCell ⟨w.heap.size + 1 + 1, 0, none⟩ (.int .u64 m0)).setCell ⟨w.heap.size + 1 + 1, 1, none⟩ (.int .u64 m1)).setCell ⟨w.heap.size + 1 + 1, 2, none⟩ (.int .u64 m2)).setCell ⟨w.heap.size + 1 + 1, 3, none⟩ (.int .u64 m3)).setCell ⟨w.heap.size + 1 + 1, 4, none⟩ (.int .u64 m4)).setCell ⟨w.heap.size + 1 + 1, 5, none⟩ (.int .u64 m5)).setCell ⟨w.heap.size + 1 + 1, 6, none⟩ (.int .u64 m6)).setCell ⟨w.heap.size + 1 + 1, 7, none⟩ (.int .u64 m7)).setCell ⟨w.heap.size + 1 + 1, 8, none⟩ (.int .u64 n0)).setCell ⟨w.heap.size + 1 + 1, 9, none⟩ (.int .u64 n1)).setCell ⟨w.heap.size + 1 + 1, 10, none⟩ (.int .u64 n2)).setCell ⟨w.heap.size + 1 + 1, 11, none⟩ (.int .u64 n3)).setCell ⟨w.heap.size + 1 + 1, 12, none⟩ (.int .u64 n4)).setCell ⟨w.heap.size + 1 + 1, 13, none⟩ (.int .u64 n5)).setCell ⟨w.heap.size + 1 + 1, 14, none⟩ (.int .u64 n6)).setCell ⟨w.heap.size + 1 + 1, 15, none⟩ (.int .u64 n7)) = W5 at *
  all_goals (have o0c := R1.c 0 rfl; have o1c := R1.c 1 rfl; have o2c := R1.c 2 rfl; have o3c := R1.c 3 rfl; have o4c := R1.c 4 rfl; have o5c := R1.c 5 rfl; have o6c := R1.c 6 rfl; have o7c := R1.c 7 rfl; have o8c := R1.c 8 rfl; have o9c := R1.c 9 rfl; have o10c := R1.c 10 rfl; have o11c := R1.c 11 rfl; have o12c := R1.c 12 rfl; have o13c := R1.c 13 rfl; have o14c := R1.c 14 rfl; have o15c := R1.c 15 rfl)
  all_goals go_wp2
  all_goals refine bodyPost_ret (v := .agg #[.int .u64 m0, .int .u64 m1, .int .u64 m2, .int .u64 m3, .int .u64 m4, .int .u64 m5, .int .u64 m6, .int .u64 m7, .int .u64 n0, .int .u64 n1, .int .u64 n2, .int .u64 n3, .int .u64 n4, .int .u64 n5, .int .u64 n6, .int .u64 n7]) (by simp [results, Try.results32, go_sem, o0c, o1c, o2c, o3c, o4c, o5c, o6c, o7c, o8c, o9c, o10c, o11c, o12c, o13c, o14c, o15c]) rfl ?_
  all_goals exact ⟨m0, m1, m2, m3, m4, m5, m6, m7, n0, n1, n2, n3, n4, n5, n6, n7, rfl, wm, wn, hm, hn, HB⟩
set_option maxRecDepth 100000 in
set_option maxHeartbeats 2000000 in
theorem timesR_any (a3 a2 a1 a0 b3 b2 b1 b0 c3 c2 c1 c0 d3 d2 d1 d0 : Int) (ha3 : Word a3) (ha2 : Word a2) (ha1 : Word a1) (ha0 : Word a0) (hb3 : Word b3) (hb2 : Word b2) (hb1 : Word b1) (hb0 : Word b0) (hc3 : Word c3) (hc2 : Word c2) (hc1 : Word c1) (hc0 : Word c0) (hd3 : Word d3) (hd2 : Word d2) (hd1 : Word d1) (hd0 : Word d0) (w : World) : Calls Try.prog 30 #[Rt a3 a2 a1 a0 b3 b2 b1 b0, Rt c3 c2 c1 c0 d3 d2 d1 d0] w (FracP ((sw a3 a2 a1 a0) * (sw c3 c2 c1 c0)) ((sw b3 b2 b1 b0) * (sw d3 d2 d1 d0)) w) := by
  have T0 := rs_args a3 a2 a1 a0 b3 b2 b1 b0 c3 c2 c1 c0 d3 d2 d1 d0 49 [.int .u64 0, .int .u64 0, .int .u64 0, .int .u64 0, .int .u64 0, .int .u64 0, .int .u64 0, .int .u64 0, .int .u64 0, .int .u64 0, .int .u64 0, .int .u64 0, .int .u64 0, .int .u64 0, .int .u64 0, .int .u64 0] w
  have R0 : Blk (((w.alloc (.cells #[.int .u64 a3, .int .u64 a2, .int .u64 a1, .int .u64 a0, .int .u64 b3, .int .u64 b2, .int .u64 b1, .int .u64 b0] 28)).alloc (.cells #[.int .u64 c3, .int .u64 c2, .int .u64 c1, .int .u64 c0, .int .u64 d3, .int .u64 d2, .int .u64 d1, .int .u64 d0] 28)).alloc (.cells #[.int .u64 0, .int .u64 0, .int .u64 0, .int .u64 0, .int .u64 0, .int .u64 0, .int .u64 0, .int .u64 0, .int .u64 0, .int .u64 0, .int .u64 0, .int .u64 0, .int .u64 0, .int .u64 0, .int .u64 0, .int .u64 0] 49)) (w.heap.size + 1 + 1) [.int .u64 0, .int .u64 0, .int .u64 0, .int .u64 0, .int .u64 0, .int .u64 0, .int .u64 0, .int .u64 0, .int .u64 0, .int .u64 0, .int .u64 0, .int .u64 0, .int .u64 0, .int .u64 0, .int .u64 0, .int .u64 0] := Blk.new _ [.int .u64 0, .int .u64 0, .int .u64 0, .int .u64 0, .int .u64 0, .int .u64 0, .int .u64 0, .int .u64 0, .int .u64 0, .int .u64 0, .int .u64 0, .int .u64 0, .int .u64 0, .int .u64 0, .int .u64 0, .int .u64 0] _ (by simp)
  obtain ⟨m0, m1, m2, m3, m4, m5, m6, m7, wm, hm⟩ := long_ex ((sw a3 a2 a1 a0) * (sw c3 c2 c1 c0)) (by have := sw_prod ha3 ha2 ha1 ha0 hc3 hc2 hc1 hc0; omega) (by have := sw_prod ha3 ha2 ha1 ha0 hc3 hc2 hc1 hc0; omega)
  obtain ⟨n0, n1, n2, n3, n4, n5, n6, n7, wn, hn⟩ := long_ex ((sw b3 b2 b1 b0) * (sw d3 d2 d1 d0)) (by have := sw_prod hb3 hb2 hb1 hb0 hd3 hd2 hd1 hd0; omega) (by have := sw_prod hb3 hb2 hb1 hb0 hd3 hd2 hd1 hd0; omega)
  have C1 := fun w => (times_any a3 a2 a1 a0 c3 c2 c1 c0 ha3 ha2 ha1 ha0 hc3 hc2 hc1 hc0 w).mono fun _ _ => times_VP wm hm
  have C2 := fun w => (times_any b3 b2 b1 b0 d3 d2 d1 d0 hb3 hb2 hb1 hb0 hd3 hd2 hd1 hd0 w).mono fun _ _ => times_VP wn hn
  have tok1 : True := trivial
  go_enter Try.func30, Try.ntmps30
  go_upto_region 1 with fail
  generalize (((w.alloc (.cells #[.int .u64 a3, .int .u64 a2, .int .u64 a1, .int .u64 a0, .int .u64 b3, .int .u64 b2, .int .u64 b1, .int .u64 b0] 28)).alloc (.cells #[.int .u64 c3, .int .u64 c2, .int .u64 c1, .int .u64 c0, .int .u64 d3, .int .u64 d2, .int .u64 d1, .int .u64 d0] 28)).alloc (.cells #[.int .u64 0, .int .u64 0, .int .u64 0, .int .u64 0, .int .u64 0, .int .u64 0, .int .u64 0, .int .u64 0, .int .u64 0, .int .u64 0, .int .u64 0, .int .u64 0, .int .u64 0, .int .u64 0, .int .u64 0, .int .u64 0] 49)) = W at *
  have hlw := (T0.b 1 rfl).lt
  have hlr := R0.lt
  go_region_held3 (fun w' => w'.cell? ⟨w.heap.size, 0, none⟩ = some (.int .u64 a3) ∧ w'.cell? ⟨w.heap.size, 1, none⟩ = some (.int .u64 a2) ∧ w'.cell? ⟨w.heap.size, 2, none⟩ = some (.int .u64 a1) ∧ w'.cell? ⟨w.heap.size, 3, none⟩ = some (.int .u64 a0) ∧ w'.cell? ⟨w.heap.size, 4, none⟩ = some (.int .u64 b3) ∧ w'.cell? ⟨w.heap.size, 5, none⟩ = some (.int .u64 b2) ∧ w'.cell? ⟨w.heap.size, 6, none⟩ = some (.int .u64 b1) ∧ w'.cell? ⟨w.heap.size, 7, none⟩ = some (.int .u64 b0) ∧ w'.cell? ⟨w.heap.size + 1, 0, none⟩ = some (.int .u64 c3) ∧ w'.cell? ⟨w.heap.size + 1, 1, none⟩ = some (.int .u64 c2) ∧ w'.cell? ⟨w.heap.size + 1, 2, none⟩ = some (.int .u64 c1) ∧ w'.cell? ⟨w.heap.size + 1, 3, none⟩ = some (.int .u64 c0) ∧ w'.cell? ⟨w.heap.size + 1, 4, none⟩ = some (.int .u64 d3) ∧ w'.cell? ⟨w.heap.size + 1, 5, none⟩ = some (.int .u64 d2) ∧ w'.cell? ⟨w.heap.size + 1, 6, none⟩ = some (.int .u64 d1) ∧ w'.cell? ⟨w.heap.size + 1, 7, none⟩ = some (.int .u64 d0)) ((refine rc_cells ?_ <;> repeat (first | (with_reducible exact T0) | (with_reducible refine ArgsB.drew ?_) | (with_reducible refine ArgsB.set ?_ (by simp <;> omega) _))))
    (first
        | (go_at_call 48; have _t := tok1; refine (C1 _).mono ?_; rintro e w1 ⟨rfl, hB⟩; (first | (have T1 : ArgsB w w1 [[.int .u64 a3, .int .u64 a2, .int .u64 a1, .int .u64 a0, .int .u64 b3, .int .u64 b2, .int .u64 b1, .int .u64 b0], [.int .u64 c3, .int .u64 c2, .int .u64 c1, .int .u64 c0, .int .u64 d3, .int .u64 d2, .int .u64 d1, .int .u64 d0]] := (by with_reducible exact T0.step hB); have tltw1 := (T0.b 1 rfl).lt; have lR0w1 := R0.lt; replace R0 := R0.step hB; skip) | (have T1 : ArgsB w w1 [[.int .u64 a3, .int .u64 a2, .int .u64 a1, .int .u64 a0, .int .u64 b3, .int .u64 b2, .int .u64 b1, .int .u64 b0], [.int .u64 c3, .int .u64 c2, .int .u64 c1, .int .u64 c0, .int .u64 d3, .int .u64 d2, .int .u64 d1, .int .u64 d0]] := (by with_reducible exact T0.drew.step hB); have tltw1 := (T0.b 1 rfl).lt; have lR0w1 := R0.lt; replace R0 := R0.drew.step hB; skip)); clear T0; have T0 := T1; clear T1; clear hB tok1 _t)
        | (go_at_call 48; refine (C2 _).mono ?_; rintro e w2 ⟨rfl, hB⟩; (first | (have T1 : ArgsB w w2 [[.int .u64 a3, .int .u64 a2, .int .u64 a1, .int .u64 a0, .int .u64 b3, .int .u64 b2, .int .u64 b1, .int .u64 b0], [.int .u64 c3, .int .u64 c2, .int .u64 c1, .int .u64 c0, .int .u64 d3, .int .u64 d2, .int .u64 d1, .int .u64 d0]] := (by with_reducible exact T0.step hB); have tltw2 := (T0.b 1 rfl).lt; have lR0w2 := R0.lt; replace R0 := R0.step hB; skip) | (have T1 : ArgsB w w2 [[.int .u64 a3, .int .u64 a2, .int .u64 a1, .int .u64 a0, .int .u64 b3, .int .u64 b2, .int .u64 b1, .int .u64 b0], [.int .u64 c3, .int .u64 c2, .int .u64 c1, .int .u64 c0, .int .u64 d3, .int .u64 d2, .int .u64 d1, .int .u64 d0]] := (by with_reducible exact T0.drew.step hB); have tltw2 := (T0.b 1 rfl).lt; have lR0w2 := R0.lt; replace R0 := R0.drew.step hB; skip)); clear T0; have T0 := T1; clear T1; have o0c := R0.c 0 rfl; have o0f := R0.f 0 rfl; have o1c := R0.c 1 rfl; have o1f := R0.f 1 rfl; have o2c := R0.c 2 rfl; have o2f := R0.f 2 rfl; have o3c := R0.c 3 rfl; have o3f := R0.f 3 rfl; have o4c := R0.c 4 rfl; have o4f := R0.f 4 rfl; have o5c := R0.c 5 rfl; have o5f := R0.f 5 rfl; have o6c := R0.c 6 rfl; have o6f := R0.f 6 rfl; have o7c := R0.c 7 rfl; have o7f := R0.f 7 rfl; have o8c := R0.c 8 rfl; have o8f := R0.f 8 rfl; have o9c := R0.c 9 rfl; have o9f := R0.f 9 rfl; have o10c := R0.c 10 rfl; have o10f := R0.f 10 rfl; have o11c := R0.c 11 rfl; have o11f := R0.f 11 rfl; have o12c := R0.c 12 rfl; have o12f := R0.f 12 rfl; have o13c := R0.c 13 rfl; have o13f := R0.f 13 rfl; have o14c := R0.c 14 rfl; have o14f := R0.f 14 rfl; have o15c := R0.c 15 rfl; have o15f := R0.f 15 rfl; have olt := R0.lt; clear hB ))
  all_goals have R1 := R0.stored16 (.int .u64 m0) (.int .u64 m1) (.int .u64 m2) (.int .u64 m3) (.int .u64 m4) (.int .u64 m5) (.int .u64 m6) (.int .u64 m7) (.int .u64 n0) (.int .u64 n1) (.int .u64 n2) (.int .u64 n3) (.int .u64 n4) (.int .u64 n5) (.int .u64 n6) (.int .u64 n7)
  all_goals have HB : Below w.heap.size w ((((((((((((((((w2.setCell ⟨w.heap.size + 1 + 1, 0, none⟩ (.int .u64 m0)).setCell ⟨w.heap.size + 1 + 1, 1, none⟩ (.int .u64 m1)).setCell ⟨w.heap.size + 1 + 1, 2, none⟩ (.int .u64 m2)).setCell ⟨w.heap.size + 1 + 1, 3, none⟩ (.int .u64 m3)).setCell ⟨w.heap.size + 1 + 1, 4, none⟩ (.int .u64 m4)).setCell ⟨w.heap.size + 1 + 1, 5, none⟩ (.int .u64 m5)).setCell ⟨w.heap.size + 1 + 1, 6, none⟩ (.int .u64 m6)).setCell ⟨w.heap.size + 1 + 1, 7, none⟩ (.int .u64 m7)).setCell ⟨w.heap.size + 1 + 1, 8, none⟩ (.int .u64 n0)).setCell ⟨w.heap.size + 1 + 1, 9, none⟩ (.int .u64 n1)).setCell ⟨w.heap.size + 1 + 1, 10, none⟩ (.int .u64 n2)).setCell ⟨w.heap.size + 1 + 1, 11, none⟩ (.int .u64 n3)).setCell ⟨w.heap.size + 1 + 1, 12, none⟩ (.int .u64 n4)).setCell ⟨w.heap.size + 1 + 1, 13, none⟩ (.int .u64 n5)).setCell ⟨w.heap.size + 1 + 1, 14, none⟩ (.int .u64 n6)).setCell ⟨w.heap.size + 1 + 1, 15, none⟩ (.int .u64 n7)) := below_set16 (by omega) T0.below
  all_goals clear T0 R0 o0c o0f o1c o1f o2c o2f o3c o3f o4c o4f o5c o5f o6c o6f o7c o7f o8c o8f o9c o9f o10c o10f o11c o11f o12c o12f o13c o13f o14c o14f o15c o15f olt
  all_goals generalize ((((((((((((((((w2.setCell ⟨w.heap.size + 1 + 1, 0, none⟩ (.int .u64 m0)).setCell ⟨w.heap.size + 1 + 1, 1, none⟩ (.int .u64 m1)).setCell ⟨w.heap.size + 1 + 1, 2, none⟩ (.int .u64 m2)).setCell ⟨w.heap.size + 1 + 1, 3, none⟩ (.int .u64 m3)).setCell ⟨w.heap.size + 1 + 1, 4, none⟩ (.int .u64 m4)).setCell ⟨w.heap.size + 1 + 1, 5, none⟩ (.int .u64 m5)).setCell ⟨w.heap.size + 1 + 1, 6, none⟩ (.int .u64 m6)).setCell ⟨w.heap.size + 1 + 1, 7, none⟩ (.int .u64 m7)).setCell ⟨w.heap.size + 1 + 1, 8, none⟩ (.int .u64 n0)).setCell ⟨w.heap.size + 1 + 1, 9, none⟩ (.int .u64 n1)).setCell ⟨w.heap.size + 1 + 1, 10, none⟩ (.int .u64 n2)).setCell ⟨w.heap.size + 1 + 1, 11, none⟩ (.int .u64 n3)).setCell ⟨w.heap.size + 1 + 1, 12, none⟩ (.int .u64 n4)).setCell ⟨w.heap.size + 1 + 1, 13, none⟩ (.int .u64 n5)).setCell ⟨w.heap.size + 1 + 1, 14, none⟩ (.int .u64 n6)).setCell ⟨w.heap.size + 1 + 1, 15, none⟩ (.int .u64 n7)) = W5 at *
  all_goals (have o0c := R1.c 0 rfl; have o1c := R1.c 1 rfl; have o2c := R1.c 2 rfl; have o3c := R1.c 3 rfl; have o4c := R1.c 4 rfl; have o5c := R1.c 5 rfl; have o6c := R1.c 6 rfl; have o7c := R1.c 7 rfl; have o8c := R1.c 8 rfl; have o9c := R1.c 9 rfl; have o10c := R1.c 10 rfl; have o11c := R1.c 11 rfl; have o12c := R1.c 12 rfl; have o13c := R1.c 13 rfl; have o14c := R1.c 14 rfl; have o15c := R1.c 15 rfl)
  all_goals go_wp2
  all_goals refine bodyPost_ret (v := .agg #[.int .u64 m0, .int .u64 m1, .int .u64 m2, .int .u64 m3, .int .u64 m4, .int .u64 m5, .int .u64 m6, .int .u64 m7, .int .u64 n0, .int .u64 n1, .int .u64 n2, .int .u64 n3, .int .u64 n4, .int .u64 n5, .int .u64 n6, .int .u64 n7]) (by simp [results, Try.results30, go_sem, o0c, o1c, o2c, o3c, o4c, o5c, o6c, o7c, o8c, o9c, o10c, o11c, o12c, o13c, o14c, o15c]) rfl ?_
  all_goals exact ⟨m0, m1, m2, m3, m4, m5, m6, m7, n0, n1, n2, n3, n4, n5, n6, n7, rfl, wm, wn, hm, hn, HB⟩
set_option maxRecDepth 100000 in
set_option maxHeartbeats 2000000 in
theorem plusR_any (a3 a2 a1 a0 b3 b2 b1 b0 c3 c2 c1 c0 d3 d2 d1 d0 : Int) (ha3 : Word a3) (ha2 : Word a2) (ha1 : Word a1) (ha0 : Word a0) (hb3 : Word b3) (hb2 : Word b2) (hb1 : Word b1) (hb0 : Word b0) (hc3 : Word c3) (hc2 : Word c2) (hc1 : Word c1) (hc0 : Word c0) (hd3 : Word d3) (hd2 : Word d2) (hd1 : Word d1) (hd0 : Word d0) (hpb : -6703903964971298549787012499102923063739682910296196688861780721860882015036773488400937149083451713845015929093243025426876941405973284973216824503042048 ≤ (sw a3 a2 a1 a0) * (sw d3 d2 d1 d0) + (sw c3 c2 c1 c0) * (sw b3 b2 b1 b0) ∧ (sw a3 a2 a1 a0) * (sw d3 d2 d1 d0) + (sw c3 c2 c1 c0) * (sw b3 b2 b1 b0) < 6703903964971298549787012499102923063739682910296196688861780721860882015036773488400937149083451713845015929093243025426876941405973284973216824503042048) (w : World) : Calls Try.prog 23 #[Rt a3 a2 a1 a0 b3 b2 b1 b0, Rt c3 c2 c1 c0 d3 d2 d1 d0] w (FracP ((sw a3 a2 a1 a0) * (sw d3 d2 d1 d0) + (sw c3 c2 c1 c0) * (sw b3 b2 b1 b0)) ((sw b3 b2 b1 b0) * (sw d3 d2 d1 d0)) w) := by
  have T0 := rs_args a3 a2 a1 a0 b3 b2 b1 b0 c3 c2 c1 c0 d3 d2 d1 d0 49 [.int .u64 0, .int .u64 0, .int .u64 0, .int .u64 0, .int .u64 0, .int .u64 0, .int .u64 0, .int .u64 0, .int .u64 0, .int .u64 0, .int .u64 0, .int .u64 0, .int .u64 0, .int .u64 0, .int .u64 0, .int .u64 0] w
  have R0 : Blk (((w.alloc (.cells #[.int .u64 a3, .int .u64 a2, .int .u64 a1, .int .u64 a0, .int .u64 b3, .int .u64 b2, .int .u64 b1, .int .u64 b0] 28)).alloc (.cells #[.int .u64 c3, .int .u64 c2, .int .u64 c1, .int .u64 c0, .int .u64 d3, .int .u64 d2, .int .u64 d1, .int .u64 d0] 28)).alloc (.cells #[.int .u64 0, .int .u64 0, .int .u64 0, .int .u64 0, .int .u64 0, .int .u64 0, .int .u64 0, .int .u64 0, .int .u64 0, .int .u64 0, .int .u64 0, .int .u64 0, .int .u64 0, .int .u64 0, .int .u64 0, .int .u64 0] 49)) (w.heap.size + 1 + 1) [.int .u64 0, .int .u64 0, .int .u64 0, .int .u64 0, .int .u64 0, .int .u64 0, .int .u64 0, .int .u64 0, .int .u64 0, .int .u64 0, .int .u64 0, .int .u64 0, .int .u64 0, .int .u64 0, .int .u64 0, .int .u64 0] := Blk.new _ [.int .u64 0, .int .u64 0, .int .u64 0, .int .u64 0, .int .u64 0, .int .u64 0, .int .u64 0, .int .u64 0, .int .u64 0, .int .u64 0, .int .u64 0, .int .u64 0, .int .u64 0, .int .u64 0, .int .u64 0, .int .u64 0] _ (by simp)
  obtain ⟨k0, k1, k2, k3, k4, k5, k6, k7, wk, hk⟩ := long_ex ((sw a3 a2 a1 a0) * (sw d3 d2 d1 d0)) (by have := sw_prod ha3 ha2 ha1 ha0 hd3 hd2 hd1 hd0; omega) (by have := sw_prod ha3 ha2 ha1 ha0 hd3 hd2 hd1 hd0; omega)
  obtain ⟨l0, l1, l2, l3, l4, l5, l6, l7, wl, hl⟩ := long_ex ((sw c3 c2 c1 c0) * (sw b3 b2 b1 b0)) (by have := sw_prod hc3 hc2 hc1 hc0 hb3 hb2 hb1 hb0; omega) (by have := sw_prod hc3 hc2 hc1 hc0 hb3 hb2 hb1 hb0; omega)
  obtain ⟨m0, m1, m2, m3, m4, m5, m6, m7, wm, hm⟩ := long_ex ((sw a3 a2 a1 a0) * (sw d3 d2 d1 d0) + (sw c3 c2 c1 c0) * (sw b3 b2 b1 b0)) hpb.1 hpb.2
  obtain ⟨n0, n1, n2, n3, n4, n5, n6, n7, wn, hn⟩ := long_ex ((sw b3 b2 b1 b0) * (sw d3 d2 d1 d0)) (by have := sw_prod hb3 hb2 hb1 hb0 hd3 hd2 hd1 hd0; omega) (by have := sw_prod hb3 hb2 hb1 hb0 hd3 hd2 hd1 hd0; omega)
  have C1 := fun w => (cross_any a3 a2 a1 a0 b3 b2 b1 b0 c3 c2 c1 c0 d3 d2 d1 d0 ha3 ha2 ha1 ha0 hd3 hd2 hd1 hd0 w).mono fun _ _ => times_VP wk hk
  have C2 := fun w => (cross_any c3 c2 c1 c0 d3 d2 d1 d0 a3 a2 a1 a0 b3 b2 b1 b0 hc3 hc2 hc1 hc0 hb3 hb2 hb1 hb0 w).mono fun _ _ => times_VP wl hl
  have C3 := fun w => (plusS_any k0 k1 k2 k3 k4 k5 k6 k7 l0 l1 l2 l3 l4 l5 l6 l7 wk wl _ (by rw [hk, hl]) hpb w).mono fun _ _ => times_VP wm hm
  have C4 := fun w => (times_any b3 b2 b1 b0 d3 d2 d1 d0 hb3 hb2 hb1 hb0 hd3 hd2 hd1 hd0 w).mono fun _ _ => times_VP wn hn
  have tok1 : True := trivial
  go_enter Try.func23, Try.ntmps23
  go_upto_region 1 with fail
  generalize (((w.alloc (.cells #[.int .u64 a3, .int .u64 a2, .int .u64 a1, .int .u64 a0, .int .u64 b3, .int .u64 b2, .int .u64 b1, .int .u64 b0] 28)).alloc (.cells #[.int .u64 c3, .int .u64 c2, .int .u64 c1, .int .u64 c0, .int .u64 d3, .int .u64 d2, .int .u64 d1, .int .u64 d0] 28)).alloc (.cells #[.int .u64 0, .int .u64 0, .int .u64 0, .int .u64 0, .int .u64 0, .int .u64 0, .int .u64 0, .int .u64 0, .int .u64 0, .int .u64 0, .int .u64 0, .int .u64 0, .int .u64 0, .int .u64 0, .int .u64 0, .int .u64 0] 49)) = W at *
  have hlw := (T0.b 1 rfl).lt
  have hlr := R0.lt
  go_region_held3 (fun w' => w'.cell? ⟨w.heap.size, 0, none⟩ = some (.int .u64 a3) ∧ w'.cell? ⟨w.heap.size, 1, none⟩ = some (.int .u64 a2) ∧ w'.cell? ⟨w.heap.size, 2, none⟩ = some (.int .u64 a1) ∧ w'.cell? ⟨w.heap.size, 3, none⟩ = some (.int .u64 a0) ∧ w'.cell? ⟨w.heap.size, 4, none⟩ = some (.int .u64 b3) ∧ w'.cell? ⟨w.heap.size, 5, none⟩ = some (.int .u64 b2) ∧ w'.cell? ⟨w.heap.size, 6, none⟩ = some (.int .u64 b1) ∧ w'.cell? ⟨w.heap.size, 7, none⟩ = some (.int .u64 b0) ∧ w'.cell? ⟨w.heap.size + 1, 0, none⟩ = some (.int .u64 c3) ∧ w'.cell? ⟨w.heap.size + 1, 1, none⟩ = some (.int .u64 c2) ∧ w'.cell? ⟨w.heap.size + 1, 2, none⟩ = some (.int .u64 c1) ∧ w'.cell? ⟨w.heap.size + 1, 3, none⟩ = some (.int .u64 c0) ∧ w'.cell? ⟨w.heap.size + 1, 4, none⟩ = some (.int .u64 d3) ∧ w'.cell? ⟨w.heap.size + 1, 5, none⟩ = some (.int .u64 d2) ∧ w'.cell? ⟨w.heap.size + 1, 6, none⟩ = some (.int .u64 d1) ∧ w'.cell? ⟨w.heap.size + 1, 7, none⟩ = some (.int .u64 d0)) ((refine rc_cells ?_ <;> repeat (first | (with_reducible exact T0) | (with_reducible refine ArgsB.drew ?_) | (with_reducible refine ArgsB.set ?_ (by simp <;> omega) _))))
    (first
        | (go_at_call 34; have _t := tok1; refine (C1 _).mono ?_; rintro e w1 ⟨rfl, hB⟩; (first | (have T1 : ArgsB w w1 [[.int .u64 a3, .int .u64 a2, .int .u64 a1, .int .u64 a0, .int .u64 b3, .int .u64 b2, .int .u64 b1, .int .u64 b0], [.int .u64 c3, .int .u64 c2, .int .u64 c1, .int .u64 c0, .int .u64 d3, .int .u64 d2, .int .u64 d1, .int .u64 d0]] := (by with_reducible exact T0.step hB); have tltw1 := (T0.b 1 rfl).lt; have lR0w1 := R0.lt; replace R0 := R0.step hB; skip) | (have T1 : ArgsB w w1 [[.int .u64 a3, .int .u64 a2, .int .u64 a1, .int .u64 a0, .int .u64 b3, .int .u64 b2, .int .u64 b1, .int .u64 b0], [.int .u64 c3, .int .u64 c2, .int .u64 c1, .int .u64 c0, .int .u64 d3, .int .u64 d2, .int .u64 d1, .int .u64 d0]] := (by with_reducible exact T0.drew.step hB); have tltw1 := (T0.b 1 rfl).lt; have lR0w1 := R0.lt; replace R0 := R0.drew.step hB; skip)); clear T0; have T0 := T1; clear T1; clear hB tok1 _t)
        | (go_at_call 34; refine (C2 _).mono ?_; rintro e w2 ⟨rfl, hB⟩; (first | (have T1 : ArgsB w w2 [[.int .u64 a3, .int .u64 a2, .int .u64 a1, .int .u64 a0, .int .u64 b3, .int .u64 b2, .int .u64 b1, .int .u64 b0], [.int .u64 c3, .int .u64 c2, .int .u64 c1, .int .u64 c0, .int .u64 d3, .int .u64 d2, .int .u64 d1, .int .u64 d0]] := (by with_reducible exact T0.step hB); have tltw2 := (T0.b 1 rfl).lt; have lR0w2 := R0.lt; replace R0 := R0.step hB; skip) | (have T1 : ArgsB w w2 [[.int .u64 a3, .int .u64 a2, .int .u64 a1, .int .u64 a0, .int .u64 b3, .int .u64 b2, .int .u64 b1, .int .u64 b0], [.int .u64 c3, .int .u64 c2, .int .u64 c1, .int .u64 c0, .int .u64 d3, .int .u64 d2, .int .u64 d1, .int .u64 d0]] := (by with_reducible exact T0.drew.step hB); have tltw2 := (T0.b 1 rfl).lt; have lR0w2 := R0.lt; replace R0 := R0.drew.step hB; skip)); clear T0; have T0 := T1; clear T1; clear hB )
        | (go_at_call 47; refine (C3 _).mono ?_; rintro e w3 ⟨rfl, hB⟩; (first | (have T1 : ArgsB w w3 [[.int .u64 a3, .int .u64 a2, .int .u64 a1, .int .u64 a0, .int .u64 b3, .int .u64 b2, .int .u64 b1, .int .u64 b0], [.int .u64 c3, .int .u64 c2, .int .u64 c1, .int .u64 c0, .int .u64 d3, .int .u64 d2, .int .u64 d1, .int .u64 d0]] := (by with_reducible exact T0.step hB); have tltw3 := (T0.b 1 rfl).lt; have lR0w3 := R0.lt; replace R0 := R0.step hB; skip) | (have T1 : ArgsB w w3 [[.int .u64 a3, .int .u64 a2, .int .u64 a1, .int .u64 a0, .int .u64 b3, .int .u64 b2, .int .u64 b1, .int .u64 b0], [.int .u64 c3, .int .u64 c2, .int .u64 c1, .int .u64 c0, .int .u64 d3, .int .u64 d2, .int .u64 d1, .int .u64 d0]] := (by with_reducible exact T0.drew.step hB); have tltw3 := (T0.b 1 rfl).lt; have lR0w3 := R0.lt; replace R0 := R0.drew.step hB; skip)); clear T0; have T0 := T1; clear T1; clear hB )
        | (go_at_call 48; refine (C4 _).mono ?_; rintro e w4 ⟨rfl, hB⟩; (first | (have T1 : ArgsB w w4 [[.int .u64 a3, .int .u64 a2, .int .u64 a1, .int .u64 a0, .int .u64 b3, .int .u64 b2, .int .u64 b1, .int .u64 b0], [.int .u64 c3, .int .u64 c2, .int .u64 c1, .int .u64 c0, .int .u64 d3, .int .u64 d2, .int .u64 d1, .int .u64 d0]] := (by with_reducible exact T0.step hB); have tltw4 := (T0.b 1 rfl).lt; have lR0w4 := R0.lt; replace R0 := R0.step hB; skip) | (have T1 : ArgsB w w4 [[.int .u64 a3, .int .u64 a2, .int .u64 a1, .int .u64 a0, .int .u64 b3, .int .u64 b2, .int .u64 b1, .int .u64 b0], [.int .u64 c3, .int .u64 c2, .int .u64 c1, .int .u64 c0, .int .u64 d3, .int .u64 d2, .int .u64 d1, .int .u64 d0]] := (by with_reducible exact T0.drew.step hB); have tltw4 := (T0.b 1 rfl).lt; have lR0w4 := R0.lt; replace R0 := R0.drew.step hB; skip)); clear T0; have T0 := T1; clear T1; have o0c := R0.c 0 rfl; have o0f := R0.f 0 rfl; have o1c := R0.c 1 rfl; have o1f := R0.f 1 rfl; have o2c := R0.c 2 rfl; have o2f := R0.f 2 rfl; have o3c := R0.c 3 rfl; have o3f := R0.f 3 rfl; have o4c := R0.c 4 rfl; have o4f := R0.f 4 rfl; have o5c := R0.c 5 rfl; have o5f := R0.f 5 rfl; have o6c := R0.c 6 rfl; have o6f := R0.f 6 rfl; have o7c := R0.c 7 rfl; have o7f := R0.f 7 rfl; have o8c := R0.c 8 rfl; have o8f := R0.f 8 rfl; have o9c := R0.c 9 rfl; have o9f := R0.f 9 rfl; have o10c := R0.c 10 rfl; have o10f := R0.f 10 rfl; have o11c := R0.c 11 rfl; have o11f := R0.f 11 rfl; have o12c := R0.c 12 rfl; have o12f := R0.f 12 rfl; have o13c := R0.c 13 rfl; have o13f := R0.f 13 rfl; have o14c := R0.c 14 rfl; have o14f := R0.f 14 rfl; have o15c := R0.c 15 rfl; have o15f := R0.f 15 rfl; have olt := R0.lt; clear hB ))
  all_goals have R1 := R0.stored16 (.int .u64 m0) (.int .u64 m1) (.int .u64 m2) (.int .u64 m3) (.int .u64 m4) (.int .u64 m5) (.int .u64 m6) (.int .u64 m7) (.int .u64 n0) (.int .u64 n1) (.int .u64 n2) (.int .u64 n3) (.int .u64 n4) (.int .u64 n5) (.int .u64 n6) (.int .u64 n7)
  all_goals have HB : Below w.heap.size w ((((((((((((((((w4.setCell ⟨w.heap.size + 1 + 1, 0, none⟩ (.int .u64 m0)).setCell ⟨w.heap.size + 1 + 1, 1, none⟩ (.int .u64 m1)).setCell ⟨w.heap.size + 1 + 1, 2, none⟩ (.int .u64 m2)).setCell ⟨w.heap.size + 1 + 1, 3, none⟩ (.int .u64 m3)).setCell ⟨w.heap.size + 1 + 1, 4, none⟩ (.int .u64 m4)).setCell ⟨w.heap.size + 1 + 1, 5, none⟩ (.int .u64 m5)).setCell ⟨w.heap.size + 1 + 1, 6, none⟩ (.int .u64 m6)).setCell ⟨w.heap.size + 1 + 1, 7, none⟩ (.int .u64 m7)).setCell ⟨w.heap.size + 1 + 1, 8, none⟩ (.int .u64 n0)).setCell ⟨w.heap.size + 1 + 1, 9, none⟩ (.int .u64 n1)).setCell ⟨w.heap.size + 1 + 1, 10, none⟩ (.int .u64 n2)).setCell ⟨w.heap.size + 1 + 1, 11, none⟩ (.int .u64 n3)).setCell ⟨w.heap.size + 1 + 1, 12, none⟩ (.int .u64 n4)).setCell ⟨w.heap.size + 1 + 1, 13, none⟩ (.int .u64 n5)).setCell ⟨w.heap.size + 1 + 1, 14, none⟩ (.int .u64 n6)).setCell ⟨w.heap.size + 1 + 1, 15, none⟩ (.int .u64 n7)) := below_set16 (by omega) T0.below
  all_goals clear T0 R0 o0c o0f o1c o1f o2c o2f o3c o3f o4c o4f o5c o5f o6c o6f o7c o7f o8c o8f o9c o9f o10c o10f o11c o11f o12c o12f o13c o13f o14c o14f o15c o15f olt
  all_goals generalize ((((((((((((((((w4.setCell ⟨w.heap.size + 1 + 1, 0, none⟩ (.int .u64 m0)).setCell ⟨w.heap.size + 1 + 1, 1, none⟩ (.int .u64 m1)).setCell ⟨w.heap.size + 1 + 1, 2, none⟩ (.int .u64 m2)).setCell ⟨w.heap.size + 1 + 1, 3, none⟩ (.int .u64 m3)).setCell ⟨w.heap.size + 1 + 1, 4, none⟩ (.int .u64 m4)).setCell ⟨w.heap.size + 1 + 1, 5, none⟩ (.int .u64 m5)).setCell ⟨w.heap.size + 1 + 1, 6, none⟩ (.int .u64 m6)).setCell ⟨w.heap.size + 1 + 1, 7, none⟩ (.int .u64 m7)).setCell ⟨w.heap.size + 1 + 1, 8, none⟩ (.int .u64 n0)).setCell ⟨w.heap.size + 1 + 1, 9, none⟩ (.int .u64 n1)).setCell ⟨w.heap.size + 1 + 1, 10, none⟩ (.int .u64 n2)).setCell ⟨w.heap.size + 1 + 1, 11, none⟩ (.int .u64 n3)).setCell ⟨w.heap.size + 1 + 1, 12, none⟩ (.int .u64 n4)).setCell ⟨w.heap.size + 1 + 1, 13, none⟩ (.int .u64 n5)).setCell ⟨w.heap.size + 1 + 1, 14, none⟩ (.int .u64 n6)).setCell ⟨w.heap.size + 1 + 1, 15, none⟩ (.int .u64 n7)) = W5 at *
  all_goals (have o0c := R1.c 0 rfl; have o1c := R1.c 1 rfl; have o2c := R1.c 2 rfl; have o3c := R1.c 3 rfl; have o4c := R1.c 4 rfl; have o5c := R1.c 5 rfl; have o6c := R1.c 6 rfl; have o7c := R1.c 7 rfl; have o8c := R1.c 8 rfl; have o9c := R1.c 9 rfl; have o10c := R1.c 10 rfl; have o11c := R1.c 11 rfl; have o12c := R1.c 12 rfl; have o13c := R1.c 13 rfl; have o14c := R1.c 14 rfl; have o15c := R1.c 15 rfl)
  all_goals go_wp2
  all_goals refine bodyPost_ret (v := .agg #[.int .u64 m0, .int .u64 m1, .int .u64 m2, .int .u64 m3, .int .u64 m4, .int .u64 m5, .int .u64 m6, .int .u64 m7, .int .u64 n0, .int .u64 n1, .int .u64 n2, .int .u64 n3, .int .u64 n4, .int .u64 n5, .int .u64 n6, .int .u64 n7]) (by simp [results, Try.results23, go_sem, o0c, o1c, o2c, o3c, o4c, o5c, o6c, o7c, o8c, o9c, o10c, o11c, o12c, o13c, o14c, o15c]) rfl ?_
  all_goals exact ⟨m0, m1, m2, m3, m4, m5, m6, m7, n0, n1, n2, n3, n4, n5, n6, n7, rfl, wm, wn, hm, hn, HB⟩
end Go.Proofs.Ytgeaklaocifhcaa
