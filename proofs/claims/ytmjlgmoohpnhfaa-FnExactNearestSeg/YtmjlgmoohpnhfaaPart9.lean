/- Part 9 of the walks that the proof leans on. -/
import Derived.Test.YtmjlgmoohpnhfaaPart8
import Derived.Test.YtmjlgmoohpnhfaaPart7
import Derived.Test.YtmjlgmoohpnhfaaPart3
import Derived.Test.YtmjlgmoohpnhfaaPart6
import Derived.Deep.OwnRows
import Derived.Test.YtmjlgmoohpnhfaaPart1
import Derived.Deep.RegionHeld3
import Derived.Deep.DeepCutAuto
/- Fractions of two numbers: the program's, the model's; and when two fractions are one. -/
namespace Go.Proofs.Ytmjlgmoohpnhfaa
open Go.RowKit
/-- A fraction as it is told. -/
def rtV (n d : Int) : Value := if told n = true ∧ told d = true then .tuple #[Rt (ww3 n) (ww2 n) (ww1 n) (ww0 n) (ww3 d) (ww2 d) (ww1 d) (ww0 d), .bool true] else .tuple #[.agg #[.int .u64 0, .int .u64 0, .int .u64 0, .int .u64 0, .int .u64 0, .int .u64 0, .int .u64 0, .int .u64 0], .bool false]
theorem ratV_rt {x y : Int} (hy : y ≠ 0) : ratV x y = rtV (lowN x y) (lowD x y) := by
  unfold ratV rtV
  by_cases h : told (lowN x y) = true ∧ told (lowD x y) = true
  · rw [if_pos ⟨hy, h⟩, if_pos h]
  · rw [if_neg (fun h' => h h'.2), if_neg h]
theorem ratV_ex (x y : Int) : ∃ z0 z1 z2 z3 z4 z5 z6 z7 : Int, ∃ t : Bool, ratV x y = .tuple #[.agg #[.int .u64 z0, .int .u64 z1, .int .u64 z2, .int .u64 z3, .int .u64 z4, .int .u64 z5, .int .u64 z6, .int .u64 z7], .bool t] := by
  unfold ratV
  split
  · exact ⟨_, _, _, _, _, _, _, _, _, rfl⟩
  · exact ⟨_, _, _, _, _, _, _, _, _, rfl⟩
theorem lr_args (s1 : Bool) (o1 : Option Addr) (n1 c1 : Nat) (s2 : Bool) (o2 : Option Addr) (n2 c2 : Nat) (w : World) : ArgsB w ((w.alloc (.cells #[.bool s1, .slice o1 n1 c1, .bool s2, .slice o2 n2 c2] 100)).alloc (.cells #[.int .u64 0, .int .u64 0, .int .u64 0, .int .u64 0, .int .u64 0, .int .u64 0, .int .u64 0, .int .u64 0] 50)) [[.bool s1, .slice o1 n1 c1, .bool s2, .slice o2 n2 c2], [.int .u64 0, .int .u64 0, .int .u64 0, .int .u64 0, .int .u64 0, .int .u64 0, .int .u64 0, .int .u64 0]] := by
  refine ⟨((Below.refl _ _).alloc (Nat.le_refl _) _).alloc (by simp) _, fun j vs hj => ?_⟩
  match j, hj with
  | 0, hj => cases hj; exact (Blk.new w [.bool s1, .slice o1 n1 c1, .bool s2, .slice o2 n2 c2] 100 rfl).alloc _
  | 1, hj => cases hj; exact Blk.new (w.alloc (.cells #[.bool s1, .slice o1 n1 c1, .bool s2, .slice o2 n2 c2] 100)) [.int .u64 0, .int .u64 0, .int .u64 0, .int .u64 0, .int .u64 0, .int .u64 0, .int .u64 0, .int .u64 0] 50 (by simp)
  | j + 2, hj => simp at hj
set_option maxRecDepth 100000 in
set_option maxHeartbeats 2000000 in
theorem l2Ratio_any (s1 : Bool) (o1 : Option Addr) (n1 c1 : Nat) (d1 : List Int) (s2 : Bool) (o2 : Option Addr) (n2 c2 : Nat) (d2 : List Int) (x y : Int) (k : Nat) (hk : k ≤ 8000) (w : World) (N1 : IsNum w s1 o1 n1 c1 d1 x k) (N2 : IsNum w s2 o2 n2 c2 d2 y k) :
    Calls Try.prog 61 #[.agg #[.bool s1, .slice o1 n1 c1, .bool s2, .slice o2 n2 c2]] w (VP (rtV x y) w) := by
  have T0 := lr_args s1 o1 n1 c1 s2 o2 n2 c2 w
  replace N1 := N1.step T0.below
  replace N2 := N2.step T0.below
  obtain ⟨e3, e2, e1, e0, HT1, HC1⟩ := tellV_ex x
  obtain ⟨f3, f2, f1, f0, HT2, HC2⟩ := tellV_ex y
  obtain ⟨t1, ht1⟩ : ∃ t, told x = t := ⟨_, rfl⟩
  obtain ⟨t2, ht2⟩ : ∃ t, told y = t := ⟨_, rfl⟩
  have HR : Hid (rtV x y = if t1 = true ∧ t2 = true then .tuple #[.agg #[.int .u64 e3, .int .u64 e2, .int .u64 e1, .int .u64 e0, .int .u64 f3, .int .u64 f2, .int .u64 f1, .int .u64 f0], .bool true] else .tuple #[.agg #[.int .u64 0, .int .u64 0, .int .u64 0, .int .u64 0, .int .u64 0, .int .u64 0, .int .u64 0, .int .u64 0], .bool false]) := by
    show _ = _
    unfold rtV
    rw [ht1, ht2]
    by_cases h1 : t1 = true
    · by_cases h2 : t2 = true
      · have g1 := HC1 (ht1.trans h1)
        have g2 := HC2 (ht2.trans h2)
        simp only [Value.agg.injEq] at g1 g2
        simp at g1 g2
        rw [if_pos ⟨h1, h2⟩, if_pos ⟨h1, h2⟩, g1.1, g1.2.1, g1.2.2.1, g1.2.2.2, g2.1, g2.2.1, g2.2.2.1, g2.2.2.2]
      · rw [if_neg (by rintro ⟨_, h⟩; exact h2 h), if_neg (by rintro ⟨_, h⟩; exact h2 h)]
    · rw [if_neg (by rintro ⟨h, _⟩; exact h1 h), if_neg (by rintro ⟨h, _⟩; exact h1 h)]
  rw [ht1] at HT1
  rw [ht2] at HT2
  clear ht1 ht2 HC1 HC2
  go_enter Try.func61, Try.ntmps61
  go_upto_region 1 with fail
  generalize ((w.alloc (.cells #[.bool s1, .slice o1 n1 c1, .bool s2, .slice o2 n2 c2] 100)).alloc (.cells #[.int .u64 0, .int .u64 0, .int .u64 0, .int .u64 0, .int .u64 0, .int .u64 0, .int .u64 0, .int .u64 0] 50)) = W at *
  have x0c := (T0.b 0 rfl).c 0 rfl; have x1c := (T0.b 0 rfl).c 1 rfl; have x2c := (T0.b 0 rfl).c 2 rfl; have x3c := (T0.b 0 rfl).c 3 rfl
  simp only [Nat.add_zero] at x0c x1c x2c x3c
  go_wp2_with fail
  refine (toW_det s1 o1 n1 c1 d1 _ _ _ N1 (by omega)).mono ?_
  rw [HT1]
  rintro e w1 ⟨rfl, hB⟩
  replace T0 := T0.step hB; replace N2 := N2.step hB
  clear hB N1 HT1 x0c x1c x2c x3c
  have hl1 := (T0.b 1 rfl).lt
  go_upto_region 2 with fail
  have X1 := Blk.new w1 [.int .u64 e3, .int .u64 e2, .int .u64 e1, .int .u64 e0] 48 rfl
  replace T0 := T0.alloc (.cells #[.int .u64 e3, .int .u64 e2, .int .u64 e1, .int .u64 e0] 48)
  replace N2 := N2.alloc (.cells #[.int .u64 e3, .int .u64 e2, .int .u64 e1, .int .u64 e0] 48)
  generalize w1.alloc (.cells #[.int .u64 e3, .int .u64 e2, .int .u64 e1, .int .u64 e0] 48) = W2 at *
  generalize w1.heap.size = g1 at *
  have x0c := (T0.b 0 rfl).c 0 rfl; have x1c := (T0.b 0 rfl).c 1 rfl; have x2c := (T0.b 0 rfl).c 2 rfl; have x3c := (T0.b 0 rfl).c 3 rfl
  simp only [Nat.add_zero] at x0c x1c x2c x3c
  go_wp2_with fail
  refine (toW_det s2 o2 n2 c2 d2 _ _ _ N2 (by omega)).mono ?_
  rw [HT2]
  rintro e w3 ⟨rfl, hB⟩
  replace T0 := T0.step hB; replace X1 := X1.step hB
  clear hB N2 HT2 x0c x1c x2c x3c
  have hl3 := (T0.b 1 rfl).lt
  have hx1 := X1.lt
  go_upto_region 3 with fail
  have X2 := Blk.new w3 [.int .u64 f3, .int .u64 f2, .int .u64 f1, .int .u64 f0] 48 rfl
  replace T0 := T0.alloc (.cells #[.int .u64 f3, .int .u64 f2, .int .u64 f1, .int .u64 f0] 48)
  replace X1 := X1.alloc (.cells #[.int .u64 f3, .int .u64 f2, .int .u64 f1, .int .u64 f0] 48)
  generalize w3.alloc (.cells #[.int .u64 f3, .int .u64 f2, .int .u64 f1, .int .u64 f0] 48) = W4' at *
  generalize w3.heap.size = g2 at *
  have R0 := T0.b 1 rfl
  by_cases ht : t1 = true ∧ t2 = true
  · obtain ⟨rfl, rfl⟩ := ht
    have HV : Hid (rtV x y = .tuple #[.agg #[.int .u64 e3, .int .u64 e2, .int .u64 e1, .int .u64 e0, .int .u64 f3, .int .u64 f2, .int .u64 f1, .int .u64 f0], .bool true]) := by show _ = _; rw [HR.out]; simp
    have HB := T0.below
    have o0c := R0.c 0 rfl; have o0f := R0.f 0 rfl; have o1c := R0.c 1 rfl; have o1f := R0.f 1 rfl; have o2c := R0.c 2 rfl; have o2f := R0.f 2 rfl; have o3c := R0.c 3 rfl; have o3f := R0.f 3 rfl; have o4c := R0.c 4 rfl; have o4f := R0.f 4 rfl; have o5c := R0.c 5 rfl; have o5f := R0.f 5 rfl; have o6c := R0.c 6 rfl; have o6f := R0.f 6 rfl; have o7c := R0.c 7 rfl; have o7f := R0.f 7 rfl
    have p0c := X1.c 0 rfl; have p1c := X1.c 1 rfl; have p2c := X1.c 2 rfl; have p3c := X1.c 3 rfl
    have q0c := X2.c 0 rfl; have q1c := X2.c 1 rfl; have q2c := X2.c 2 rfl; have q3c := X2.c 3 rfl
    go_wp2
    refine bodyPost_ret (v := .tuple #[.agg #[.int .u64 e3, .int .u64 e2, .int .u64 e1, .int .u64 e0, .int .u64 f3, .int .u64 f2, .int .u64 f1, .int .u64 f0], .bool true]) (by simp [results, Try.results61, go_sem, o0c, o1c, o2c, o3c, o4c, o5c, o6c, o7c]) rfl ?_
    refine ⟨by rw [HV.out], ?_⟩
    repeat' (refine Below.setCell ?_ (by simp; try omega) _)
    exact HB
  · have HV : Hid (rtV x y = .tuple #[.agg #[.int .u64 0, .int .u64 0, .int .u64 0, .int .u64 0, .int .u64 0, .int .u64 0, .int .u64 0, .int .u64 0], .bool false]) := by show _ = _; rw [HR.out, if_neg ht]
    cases t1
    · have tok : True := trivial
      have HB := T0.below
      have o0c := R0.c 0 rfl; have o0f := R0.f 0 rfl; have o1c := R0.c 1 rfl; have o1f := R0.f 1 rfl; have o2c := R0.c 2 rfl; have o2f := R0.f 2 rfl; have o3c := R0.c 3 rfl; have o3f := R0.f 3 rfl; have o4c := R0.c 4 rfl; have o4f := R0.f 4 rfl; have o5c := R0.c 5 rfl; have o5f := R0.f 5 rfl; have o6c := R0.c 6 rfl; have o6f := R0.f 6 rfl; have o7c := R0.c 7 rfl; have o7f := R0.f 7 rfl
      go_wp2
      refine bodyPost_ret (v := .tuple #[.agg #[.int .u64 0, .int .u64 0, .int .u64 0, .int .u64 0, .int .u64 0, .int .u64 0, .int .u64 0, .int .u64 0], .bool false]) (by simp [results, Try.results61, go_sem, o0c, o1c, o2c, o3c, o4c, o5c, o6c, o7c]) rfl ?_
      refine ⟨by rw [HV.out], ?_⟩
      repeat' (refine Below.setCell ?_ (by simp; try omega) _)
      exact HB
    · cases t2
      · have tok : True := trivial
        have HB := T0.below
        have o0c := R0.c 0 rfl; have o0f := R0.f 0 rfl; have o1c := R0.c 1 rfl; have o1f := R0.f 1 rfl; have o2c := R0.c 2 rfl; have o2f := R0.f 2 rfl; have o3c := R0.c 3 rfl; have o3f := R0.f 3 rfl; have o4c := R0.c 4 rfl; have o4f := R0.f 4 rfl; have o5c := R0.c 5 rfl; have o5f := R0.f 5 rfl; have o6c := R0.c 6 rfl; have o6f := R0.f 6 rfl; have o7c := R0.c 7 rfl; have o7f := R0.f 7 rfl
        go_wp2
        refine bodyPost_ret (v := .tuple #[.agg #[.int .u64 0, .int .u64 0, .int .u64 0, .int .u64 0, .int .u64 0, .int .u64 0, .int .u64 0, .int .u64 0], .bool false]) (by simp [results, Try.results61, go_sem, o0c, o1c, o2c, o3c, o4c, o5c, o6c, o7c]) rfl ?_
        refine ⟨by rw [HV.out], ?_⟩
        repeat' (refine Below.setCell ?_ (by simp; try omega) _)
        exact HB
      · exact absurd ⟨rfl, rfl⟩ ht
theorem ro_args (a3 a2 a1 a0 b3 b2 b1 b0 : Int) (w : World) : ArgsB w (((w.alloc (.cells #[.int .u64 a3, .int .u64 a2, .int .u64 a1, .int .u64 a0] 48)).alloc (.cells #[.int .u64 b3, .int .u64 b2, .int .u64 b1, .int .u64 b0] 48)).alloc (.cells #[.int .u64 0, .int .u64 0, .int .u64 0, .int .u64 0, .int .u64 0, .int .u64 0, .int .u64 0, .int .u64 0] 50)) [[.int .u64 a3, .int .u64 a2, .int .u64 a1, .int .u64 a0], [.int .u64 b3, .int .u64 b2, .int .u64 b1, .int .u64 b0]] := by
  refine ⟨(((Below.refl _ _).alloc (Nat.le_refl _) _).alloc (by simp) _).alloc (by simp; omega) _, fun j vs hj => ?_⟩
  match j, hj with
  | 0, hj => cases hj; exact ((Blk.new w [.int .u64 a3, .int .u64 a2, .int .u64 a1, .int .u64 a0] 48 rfl).alloc _).alloc _
  | 1, hj => cases hj; exact (Blk.new (w.alloc (.cells #[.int .u64 a3, .int .u64 a2, .int .u64 a1, .int .u64 a0] 48)) [.int .u64 b3, .int .u64 b2, .int .u64 b1, .int .u64 b0] 48 (by simp)).alloc _
  | j + 2, hj => simp at hj
theorem buildF (x0 x1 x2 x3 x4 x5 x6 x7 y0 y1 y2 y3 y4 y5 y6 y7 : Int) (w : World) : (Instr.build 215 #[(0, L8 x0 x1 x2 x3 x4 x5 x6 x7), (1, L8 y0 y1 y2 y3 y4 y5 y6 y7)]).run Try.prog w = .ok (.agg #[.int .u64 x0, .int .u64 x1, .int .u64 x2, .int .u64 x3, .int .u64 x4, .int .u64 x5, .int .u64 x6, .int .u64 x7, .int .u64 y0, .int .u64 y1, .int .u64 y2, .int .u64 y3, .int .u64 y4, .int .u64 y5, .int .u64 y6, .int .u64 y7]) w := run_build w _ _ _ (by kernel_rfl)
theorem sl_long {a3 a2 a1 a0 : Int} (h3 : Word a3) (h2 : Word a2) (h1 : Word a1) (h0 : Word a0) : -6703903964971298549787012499102923063739682910296196688861780721860882015036773488400937149083451713845015929093243025426876941405973284973216824503042048 < sl a0 a1 a2 a3 (fillW a3) (fillW a3) (fillW a3) (fillW a3) := by
  rw [sl_fill]
  have := sw_size h3 h2 h1 h0
  omega
set_option maxRecDepth 100000 in
set_option maxHeartbeats 4000000 in
theorem implRatioOf_any (a3 a2 a1 a0 b3 b2 b1 b0 : Int) (ha3 : Word a3) (ha2 : Word a2) (ha1 : Word a1) (ha0 : Word a0) (hb3 : Word b3) (hb2 : Word b2) (hb1 : Word b1) (hb0 : Word b0) (w : World) : Calls Try.prog 151 #[.agg #[.int .u64 a3, .int .u64 a2, .int .u64 a1, .int .u64 a0], .agg #[.int .u64 b3, .int .u64 b2, .int .u64 b1, .int .u64 b0]] w (VP (ratV (sw a3 a2 a1 a0) (sw b3 b2 b1 b0)) w) := by
  have T0 := ro_args a3 a2 a1 a0 b3 b2 b1 b0 w
  have R0 : Blk (((w.alloc (.cells #[.int .u64 a3, .int .u64 a2, .int .u64 a1, .int .u64 a0] 48)).alloc (.cells #[.int .u64 b3, .int .u64 b2, .int .u64 b1, .int .u64 b0] 48)).alloc (.cells #[.int .u64 0, .int .u64 0, .int .u64 0, .int .u64 0, .int .u64 0, .int .u64 0, .int .u64 0, .int .u64 0] 50)) (w.heap.size + 1 + 1) [.int .u64 0, .int .u64 0, .int .u64 0, .int .u64 0, .int .u64 0, .int .u64 0, .int .u64 0, .int .u64 0] := Blk.new _ [.int .u64 0, .int .u64 0, .int .u64 0, .int .u64 0, .int .u64 0, .int .u64 0, .int .u64 0, .int .u64 0] _ (by simp)
  have LA := longOf_any a3 a2 a1 a0 ha3
  have LB := longOf_any b3 b2 b1 b0 hb3
  have LW := lowest_any a0 a1 a2 a3 (fillW a3) (fillW a3) (fillW a3) (fillW a3) b0 b1 b2 b3 (fillW b3) (fillW b3) (fillW b3) (fillW b3) (words_fill ha3 ha2 ha1 ha0) (words_fill hb3 hb2 hb1 hb0) (sl_long ha3 ha2 ha1 ha0) (sl_long hb3 hb2 hb1 hb0)
  rw [sl_fill, sl_fill] at LW
  have BF := buildF a0 a1 a2 a3 (fillW a3) (fillW a3) (fillW a3) (fillW a3) b0 b1 b2 b3 (fillW b3) (fillW b3) (fillW b3) (fillW b3)
  obtain ⟨z0, z1, z2, z3, z4, z5, z6, z7, t, hz⟩ := ratV_ex (sw a3 a2 a1 a0) (sw b3 b2 b1 b0)
  rw [hz] at LW
  have HV : Hid (ratV (sw a3 a2 a1 a0) (sw b3 b2 b1 b0) = .tuple #[.agg #[.int .u64 z0, .int .u64 z1, .int .u64 z2, .int .u64 z3, .int .u64 z4, .int .u64 z5, .int .u64 z6, .int .u64 z7], .bool t]) := hz
  clear hz
  generalize fillW a3 = fa at *
  generalize fillW b3 = fb at *
  go_enter Try.func151, Try.ntmps151
  go_upto_region 1 with fail
  generalize (((w.alloc (.cells #[.int .u64 a3, .int .u64 a2, .int .u64 a1, .int .u64 a0] 48)).alloc (.cells #[.int .u64 b3, .int .u64 b2, .int .u64 b1, .int .u64 b0] 48)).alloc (.cells #[.int .u64 0, .int .u64 0, .int .u64 0, .int .u64 0, .int .u64 0, .int .u64 0, .int .u64 0, .int .u64 0] 50)) = W at *
  have hlw := (T0.b 1 rfl).lt
  have hlr := R0.lt
  have tok1 : True := trivial
  replace T0 := T0.drew
  have x0c := (T0.b 0 rfl).c 0 rfl; have x1c := (T0.b 0 rfl).c 1 rfl; have x2c := (T0.b 0 rfl).c 2 rfl; have x3c := (T0.b 0 rfl).c 3 rfl; have y0c := (T0.b 1 rfl).c 0 rfl; have y1c := (T0.b 1 rfl).c 1 rfl; have y2c := (T0.b 1 rfl).c 2 rfl; have y3c := (T0.b 1 rfl).c 3 rfl; have o0c := R0.c 0 rfl; have o0f := R0.f 0 rfl; have o1c := R0.c 1 rfl; have o1f := R0.f 1 rfl; have o2c := R0.c 2 rfl; have o2f := R0.f 2 rfl; have o3c := R0.c 3 rfl; have o3f := R0.f 3 rfl; have o4c := R0.c 4 rfl; have o4f := R0.f 4 rfl; have o5c := R0.c 5 rfl; have o5f := R0.f 5 rfl; have o6c := R0.c 6 rfl; have o6f := R0.f 6 rfl; have o7c := R0.c 7 rfl; have o7f := R0.f 7 rfl; have olt := R0.lt; simp only [Nat.add_zero] at x0c x1c x2c x3c
  go_region_with ((first
      | (go_at_call 143; have _t := tok1; refine (LA _).mono ?_; rintro e w1 ⟨rfl, hB⟩; replace T0 := T0.step hB; replace R0 := R0.drew.step hB; clear hB tok1 _t x0c x1c x2c x3c y0c y1c y2c y3c o0c o0f o1c o1f o2c o2f o3c o3f o4c o4f o5c o5f o6c o6f o7c o7f olt; have x0c := (T0.b 0 rfl).c 0 rfl; have x1c := (T0.b 0 rfl).c 1 rfl; have x2c := (T0.b 0 rfl).c 2 rfl; have x3c := (T0.b 0 rfl).c 3 rfl; have y0c := (T0.b 1 rfl).c 0 rfl; have y1c := (T0.b 1 rfl).c 1 rfl; have y2c := (T0.b 1 rfl).c 2 rfl; have y3c := (T0.b 1 rfl).c 3 rfl; have o0c := R0.c 0 rfl; have o0f := R0.f 0 rfl; have o1c := R0.c 1 rfl; have o1f := R0.f 1 rfl; have o2c := R0.c 2 rfl; have o2f := R0.f 2 rfl; have o3c := R0.c 3 rfl; have o3f := R0.f 3 rfl; have o4c := R0.c 4 rfl; have o4f := R0.f 4 rfl; have o5c := R0.c 5 rfl; have o5f := R0.f 5 rfl; have o6c := R0.c 6 rfl; have o6f := R0.f 6 rfl; have o7c := R0.c 7 rfl; have o7f := R0.f 7 rfl; have olt := R0.lt; simp only [Nat.add_zero] at x0c x1c x2c x3c)
      | (go_at_call 143; refine (LB _).mono ?_; rintro e w2 ⟨rfl, hB⟩; replace T0 := T0.step hB; replace R0 := R0.step hB; clear hB x0c x1c x2c x3c y0c y1c y2c y3c o0c o0f o1c o1f o2c o2f o3c o3f o4c o4f o5c o5f o6c o6f o7c o7f olt; have x0c := (T0.b 0 rfl).c 0 rfl; have x1c := (T0.b 0 rfl).c 1 rfl; have x2c := (T0.b 0 rfl).c 2 rfl; have x3c := (T0.b 0 rfl).c 3 rfl; have y0c := (T0.b 1 rfl).c 0 rfl; have y1c := (T0.b 1 rfl).c 1 rfl; have y2c := (T0.b 1 rfl).c 2 rfl; have y3c := (T0.b 1 rfl).c 3 rfl; have o0c := R0.c 0 rfl; have o0f := R0.f 0 rfl; have o1c := R0.c 1 rfl; have o1f := R0.f 1 rfl; have o2c := R0.c 2 rfl; have o2f := R0.f 2 rfl; have o3c := R0.c 3 rfl; have o3f := R0.f 3 rfl; have o4c := R0.c 4 rfl; have o4f := R0.f 4 rfl; have o5c := R0.c 5 rfl; have o5f := R0.f 5 rfl; have o6c := R0.c 6 rfl; have o6f := R0.f 6 rfl; have o7c := R0.c 7 rfl; have o7f := R0.f 7 rfl; have olt := R0.lt; simp only [Nat.add_zero] at x0c x1c x2c x3c)
      | (go_at_call 173; refine (LW _).mono ?_; rintro e w3 ⟨rfl, hB⟩; replace T0 := T0.step hB; replace R0 := R0.step hB; clear hB x0c x1c x2c x3c y0c y1c y2c y3c o0c o0f o1c o1f o2c o2f o3c o3f o4c o4f o5c o5f o6c o6f o7c o7f olt; have x0c := (T0.b 0 rfl).c 0 rfl; have x1c := (T0.b 0 rfl).c 1 rfl; have x2c := (T0.b 0 rfl).c 2 rfl; have x3c := (T0.b 0 rfl).c 3 rfl; have y0c := (T0.b 1 rfl).c 0 rfl; have y1c := (T0.b 1 rfl).c 1 rfl; have y2c := (T0.b 1 rfl).c 2 rfl; have y3c := (T0.b 1 rfl).c 3 rfl; have o0c := R0.c 0 rfl; have o0f := R0.f 0 rfl; have o1c := R0.c 1 rfl; have o1f := R0.f 1 rfl; have o2c := R0.c 2 rfl; have o2f := R0.f 2 rfl; have o3c := R0.c 3 rfl; have o3f := R0.f 3 rfl; have o4c := R0.c 4 rfl; have o4f := R0.f 4 rfl; have o5c := R0.c 5 rfl; have o5f := R0.f 5 rfl; have o6c := R0.c 6 rfl; have o6f := R0.f 6 rfl; have o7c := R0.c 7 rfl; have o7f := R0.f 7 rfl; have olt := R0.lt; simp only [Nat.add_zero] at x0c x1c x2c x3c)))
  all_goals have HB := T0.below
  all_goals clear T0
  all_goals go_wp2
  all_goals refine bodyPost_ret (v := .tuple #[.agg #[.int .u64 z0, .int .u64 z1, .int .u64 z2, .int .u64 z3, .int .u64 z4, .int .u64 z5, .int .u64 z6, .int .u64 z7], .bool t]) (by simp [results, Try.results151, go_sem, o0c, o1c, o2c, o3c, o4c, o5c, o6c, o7c]) rfl ?_
  all_goals refine ⟨by rw [HV.out], ?_⟩
  all_goals (try (with_reducible refine Below.drew ?_))
  all_goals repeat' (refine Below.setCell ?_ (by simp; try omega) _)
  all_goals exact HB
end Go.Proofs.Ytmjlgmoohpnhfaa

/- Differences of spots, their products: the program's walks. -/
namespace Go.Proofs.Ytmjlgmoohpnhfaa
open Go.RowKit
abbrev In2 (x : Int) : Prop := -2000000 ≤ x ∧ x ≤ 2000000
abbrev In1 (x : Int) : Prop := -1000000 ≤ x ∧ x ≤ 1000000
theorem mul_in {p q M N : Int} (h1 : -M ≤ p) (h2 : p ≤ M) (h3 : -N ≤ q) (h4 : q ≤ N) : -(M * N) ≤ p * q ∧ p * q ≤ M * N := by
  have hM : 0 ≤ M := by omega
  have hN : 0 ≤ N := by omega
  have a1 : 0 ≤ (M - p) * (N - q) := Int.mul_nonneg (by omega) (by omega)
  have a2 : 0 ≤ (M + p) * (N + q) := Int.mul_nonneg (by omega) (by omega)
  have a3 : 0 ≤ (M - p) * (N + q) := Int.mul_nonneg (by omega) (by omega)
  have a4 : 0 ≤ (M + p) * (N - q) := Int.mul_nonneg (by omega) (by omega)
  constructor <;> grind
theorem prod2 {p q : Int} (hp : In2 p) (hq : In2 q) : -4000000000000 ≤ p * q ∧ p * q ≤ 4000000000000 := mul_in (M := 2000000) (N := 2000000) hp.1 hp.2 hq.1 hq.2
theorem minusS_det (x y u v : Int) (hx : In1 x) (hy : In1 y) (hu : In1 u) (hv : In1 v) (w : World) : Calls Try.prog 149 #[Sp x y, Sp u v] w (VP (Sp (x - u) (y - v)) w) := by
  obtain ⟨x1, x2⟩ := hx; obtain ⟨y1, y2⟩ := hy; obtain ⟨u1, u2⟩ := hu; obtain ⟨v1, v2⟩ := hv
  go_enter Try.func149, Try.ntmps149
  go_wp2
  refine bodyPost_ret (v := Sp (x - u) (y - v)) (by simp [results, Try.results149, go_sem]) rfl ?_
  exact ⟨rfl, (((Below.refl _ _).alloc (Nat.le_refl _) _).alloc (by simp) _).alloc (by simp; omega) _⟩
theorem cross_det (x y u v : Int) (hx : In2 x) (hy : In2 y) (hu : In2 u) (hv : In2 v) (w : World) : Calls Try.prog 80 #[Sp x y, Sp u v] w (VP (.int .i64 (x * v - y * u)) w) := by
  obtain ⟨p1, p2⟩ := prod2 hx hv; obtain ⟨q1, q2⟩ := prod2 hy hu
  clear hx hy hu hv
  go_enter Try.func80, Try.ntmps80
  go_wp2
  go_ret
  exact ⟨rfl, ((Below.refl _ _).alloc (Nat.le_refl _) _).alloc (by simp) _⟩
theorem dot_det (x y u v : Int) (hx : In2 x) (hy : In2 y) (hu : In2 u) (hv : In2 v) (w : World) : Calls Try.prog 150 #[Sp x y, Sp u v] w (VP (.int .i64 (x * u + y * v)) w) := by
  obtain ⟨p1, p2⟩ := prod2 hx hu; obtain ⟨q1, q2⟩ := prod2 hy hv
  clear hx hy hu hv
  go_enter Try.func150, Try.ntmps150
  go_wp2
  go_ret
  exact ⟨rfl, ((Below.refl _ _).alloc (Nat.le_refl _) _).alloc (by simp) _⟩
theorem implRatioOf_det (x y : Int) (hx : told x = true) (hy : told y = true) (w : World) : Calls Try.prog 151 #[W4 x, W4 y] w (VP (ratV x y) w) := by
  obtain ⟨a3, a2, a1, a0⟩ := ww_words x
  obtain ⟨b3, b2, b1, b0⟩ := ww_words y
  have h := implRatioOf_any (ww3 x) (ww2 x) (ww1 x) (ww0 x) (ww3 y) (ww2 y) (ww1 y) (ww0 y) a3 a2 a1 a0 b3 b2 b1 b0 w
  rw [ww_sw hx, ww_sw hy] at h
  exact h
/-- Two rows of two values, each in a block of its own. -/
def CutG (w wx : World) (vss : List (List Value)) (us vs : List Value) (p q : Value) : Prop :=
  ∃ g g', p = .pointer (some ⟨g, 0, none⟩) ∧ q = .pointer (some ⟨g', 0, none⟩) ∧ g ≠ g' ∧ w.heap.size + vss.length ≤ g ∧ w.heap.size + vss.length ≤ g' ∧ ArgsB w wx vss ∧ Blk wx g us ∧ Blk wx g' vs
theorem cutG_nn {w X : World} {vss : List (List Value)} {us vs : List Value} {T T' : TypeId} (h : ArgsB w X vss) (hl : w.heap.size + vss.length ≤ X.heap.size) : CutG w ((X.alloc (.cells us.toArray T)).alloc (.cells vs.toArray T')) vss us vs (.pointer (some ⟨X.heap.size, 0, none⟩)) (.pointer (some ⟨X.heap.size + 1, 0, none⟩)) :=
  ⟨_, _, rfl, rfl, by omega, hl, by omega, (h.alloc _).alloc _, (Blk.new X us T rfl).alloc _, Blk.new _ vs T' (by simp)⟩
theorem cutG_nn' {w X : World} {vss : List (List Value)} {us vs : List Value} {T T' : TypeId} (h : ArgsB w X vss) (hl : w.heap.size + vss.length ≤ X.heap.size) : CutG w ((X.alloc (.cells vs.toArray T)).alloc (.cells us.toArray T')) vss us vs (.pointer (some ⟨X.heap.size + 1, 0, none⟩)) (.pointer (some ⟨X.heap.size, 0, none⟩)) :=
  ⟨_, _, rfl, rfl, by omega, by omega, hl, (h.alloc _).alloc _, Blk.new _ us T' (by simp), (Blk.new X vs T rfl).alloc _⟩
theorem cutG_sn {w X : World} {vss : List (List Value)} {v0 v1 z0 z1 : Value} {vs : List Value} {T : TypeId} {g : Nat} (h : ArgsB w X vss) (G : Blk X g [z0, z1]) (hg : w.heap.size + vss.length ≤ g) (hl : w.heap.size + vss.length ≤ X.heap.size) : CutG w (((X.setCell ⟨g, 0, none⟩ v0).setCell ⟨g, 1, none⟩ v1).alloc (.cells vs.toArray T)) vss [v0, v1] vs (.pointer (some ⟨g, 0, none⟩)) (.pointer (some ⟨X.heap.size, 0, none⟩)) :=
  ⟨_, _, rfl, rfl, by have := G.lt; omega, hg, hl, (h.set2 hg _ _).alloc _, (G.stored2 _ _).alloc _, Blk.new _ vs T (by simp)⟩
theorem cutG_sn' {w X : World} {vss : List (List Value)} {v0 v1 z0 z1 : Value} {us : List Value} {T : TypeId} {g : Nat} (h : ArgsB w X vss) (G : Blk X g [z0, z1]) (hg : w.heap.size + vss.length ≤ g) (hl : w.heap.size + vss.length ≤ X.heap.size) : CutG w (((X.setCell ⟨g, 0, none⟩ v0).setCell ⟨g, 1, none⟩ v1).alloc (.cells us.toArray T)) vss us [v0, v1] (.pointer (some ⟨X.heap.size, 0, none⟩)) (.pointer (some ⟨g, 0, none⟩)) :=
  ⟨_, _, rfl, rfl, by have := G.lt; omega, hl, hg, (h.set2 hg _ _).alloc _, Blk.new _ us T (by simp), (G.stored2 _ _).alloc _⟩
theorem cutG_ss {w X : World} {vss : List (List Value)} {v0 v1 u0 u1 z0 z1 y0 y1 : Value} {g g' : Nat} (h : ArgsB w X vss) (G : Blk X g [z0, z1]) (G' : Blk X g' [y0, y1]) (hg : w.heap.size + vss.length ≤ g) (hg' : w.heap.size + vss.length ≤ g') (hne : g ≠ g') :
    CutG w ((((X.setCell ⟨g, 0, none⟩ v0).setCell ⟨g, 1, none⟩ v1).setCell ⟨g', 0, none⟩ u0).setCell ⟨g', 1, none⟩ u1) vss [v0, v1] [u0, u1] (.pointer (some ⟨g, 0, none⟩)) (.pointer (some ⟨g', 0, none⟩)) :=
  ⟨_, _, rfl, rfl, hne, hg, hg', (h.set2 hg _ _).set2 hg' _ _, (G.stored2 _ _).set2 hne, (G'.set2 (fun e => hne e.symm)).stored2 _ _⟩
/-- The square of the distance of a spot and a segment, both right. -/
def nearW (a b c d x y : Int) : Value :=
  if (x - a) * (c - a) + (y - b) * (d - b) ≤ 0 then ratV ((x - a) * (x - a) + (y - b) * (y - b)) 1
  else if (x - c) * (c - a) + (y - d) * (d - b) ≥ 0 then ratV ((x - c) * (x - c) + (y - d) * (y - d)) 1
  else ratV (((c - a) * (y - b) - (d - b) * (x - a)) * ((c - a) * (y - b) - (d - b) * (x - a))) ((c - a) * (c - a) + (d - b) * (d - b))
/-- The square of the distance of a spot and a segment, and true; where one is not right: zeros, and false. -/
def nearV (a b c d x y : Int) : Value := if segOk a b c d && spotOk x y then nearW a b c d x y else .tuple #[.agg #[.int .u64 0, .int .u64 0, .int .u64 0, .int .u64 0, .int .u64 0, .int .u64 0, .int .u64 0, .int .u64 0], .bool false]
theorem nearW_ex (a b c d x y : Int) : ∃ z0 z1 z2 z3 z4 z5 z6 z7 f, nearW a b c d x y = .tuple #[.agg #[.int .u64 z0, .int .u64 z1, .int .u64 z2, .int .u64 z3, .int .u64 z4, .int .u64 z5, .int .u64 z6, .int .u64 z7], .bool f] := by
  unfold nearW
  split
  · exact ratV_ex _ _
  · split <;> exact ratV_ex _ _
theorem in1_spot {x y : Int} (h : spotOk x y = true) : In1 x ∧ In1 y := by
  unfold spotOk at h
  simp at h
  omega
theorem told_big {x : Int} (h : -1000000000000000000000000000000 ≤ x ∧ x ≤ 1000000000000000000000000000000) : told x = true := told_of (by omega)
theorem nr_cells {a b c d x y : Int} {w W : World} (T0 : ArgsB w W [[.int .i64 a, .int .i64 b, .int .i64 c, .int .i64 d], [.int .i64 x, .int .i64 y], [.int .u64 0, .int .u64 0, .int .u64 0, .int .u64 0, .int .u64 0, .int .u64 0, .int .u64 0, .int .u64 0]]) : (fun w' => w'.cell? ⟨w.heap.size, 0, none⟩ = some (.int .i64 a) ∧ w'.cell? ⟨w.heap.size, 1, none⟩ = some (.int .i64 b) ∧ w'.cell? ⟨w.heap.size, 2, none⟩ = some (.int .i64 c) ∧ w'.cell? ⟨w.heap.size, 3, none⟩ = some (.int .i64 d) ∧ w'.cell? ⟨w.heap.size + 1, 0, none⟩ = some (.int .i64 x) ∧ w'.cell? ⟨w.heap.size + 1, 1, none⟩ = some (.int .i64 y)) W := ⟨(T0.b 0 rfl).c 0 rfl, (T0.b 0 rfl).c 1 rfl, (T0.b 0 rfl).c 2 rfl, (T0.b 0 rfl).c 3 rfl, (T0.b 1 rfl).c 0 rfl, (T0.b 1 rfl).c 1 rfl⟩
end Go.Proofs.Ytmjlgmoohpnhfaa

/- The square of the distance of a spot and a segment: the model's walk. -/
namespace Go.Proofs.Ytmjlgmoohpnhfaa
open Go.RowKit
theorem ratV_one (n : Int) : ratV n 1 = rtV n 1 := by
  rw [ratV_rt (by decide)]
  have h1 : lowN n 1 = n := by
    unfold lowN shareZ
    rw [Int.gcd_one]
    by_cases h : n < 0
    · simp [h]; omega
    · simp [h]; omega
  have h2 : lowD n 1 = 1 := by
    unfold lowD shareZ
    rw [Int.gcd_one]
    decide
  rw [h1, h2]
theorem sum_sq {m n : Int} (h : m * m + n * n = 0) : m = 0 ∧ n = 0 := by
  have h1 : 0 ≤ m * m := by
    rcases Int.le_total 0 m with h | h
    · exact Int.mul_nonneg h h
    · exact Int.mul_nonneg_of_nonpos_of_nonpos h h
  have h2 : 0 ≤ n * n := by
    rcases Int.le_total 0 n with h | h
    · exact Int.mul_nonneg h h
    · exact Int.mul_nonneg_of_nonpos_of_nonpos h h
  exact ⟨(Int.mul_eq_zero.1 (by omega : m * m = 0)).elim id id, (Int.mul_eq_zero.1 (by omega : n * n = 0)).elim id id⟩
def NearP (a b c d x y : Int) (w : World) (e : Ending) (w' : World) : Prop := ∃ (U V : Int) (k : Nat), k ≤ 8000 ∧ rtV U V = nearW a b c d x y ∧ NumsP k U V w e w'
theorem near_same (a b c d x y : Int) : (x - c) * (c - a) + (y - d) * (d - b) = (x - a) * (c - a) + (y - b) * (d - b) - ((c - a) * (c - a) + (d - b) * (d - b)) := by grind
set_option maxRecDepth 100000 in
set_option maxHeartbeats 8000000 in
theorem l4Near2_any (a b c d x y : Int) (i1 : In1 a) (i2 : In1 b) (i3 : In1 c) (i4 : In1 d) (i5 : In1 x) (i6 : In1 y) (w : World) : Calls Try.prog 59 #[Sg a b c d, Sp x y] w (NearP a b c d x y w) := by
  have T0 : ArgsB w (((w.alloc (.cells #[.int .i64 a, .int .i64 b, .int .i64 c, .int .i64 d] 103)).alloc (.cells #[.int .i64 x, .int .i64 y] 55)).alloc (.cells #[.bool false, .slice none 0 0, .bool false, .slice none 0 0] 100)) [[.int .i64 a, .int .i64 b, .int .i64 c, .int .i64 d], [.int .i64 x, .int .i64 y], [.bool false, .slice none 0 0, .bool false, .slice none 0 0]] := ar3 _ _ _ _ _ _ w
  obtain ⟨a1, a2⟩ := i1; obtain ⟨b1, b2⟩ := i2; obtain ⟨c1, c2⟩ := i3; obtain ⟨d1, d2⟩ := i4; obtain ⟨x1, x2⟩ := i5; obtain ⟨y1, y2⟩ := i6
  have hm2 : In2 (c - a) := ⟨by omega, by omega⟩
  have hn2 : In2 (d - b) := ⟨by omega, by omega⟩
  have hi2 : In2 (x - a) := ⟨by omega, by omega⟩
  have hj2 : In2 (y - b) := ⟨by omega, by omega⟩
  have hk2 : In2 (x - c) := ⟨by omega, by omega⟩
  have hl2 : In2 (y - d) := ⟨by omega, by omega⟩
  obtain ⟨p1, p2⟩ := prod2 hi2 hi2; obtain ⟨p3, p4⟩ := prod2 hj2 hj2; obtain ⟨p5, p6⟩ := prod2 hk2 hk2; obtain ⟨p7, p8⟩ := prod2 hl2 hl2
  obtain ⟨u1, u2⟩ := prod2 hm2 hj2; obtain ⟨u3, u4⟩ := prod2 hn2 hi2; obtain ⟨u5, u6⟩ := prod2 hm2 hm2; obtain ⟨u7, u8⟩ := prod2 hn2 hn2
  obtain ⟨t1, t2⟩ := prod2 hi2 hm2; obtain ⟨t3, t4⟩ := prod2 hj2 hn2
  clear hm2 hn2 hi2 hj2 hk2 hl2
  have E : Hid ((x - c) * (c - a) + (y - d) * (d - b) = (x - a) * (c - a) + (y - b) * (d - b) - ((c - a) * (c - a) + (d - b) * (d - b))) := near_same a b c d x y
  go_enter Try.func59, Try.ntmps59
  go_upto_region 1 with fail
  generalize (((w.alloc (.cells #[.int .i64 a, .int .i64 b, .int .i64 c, .int .i64 d] 103)).alloc (.cells #[.int .i64 x, .int .i64 y] 55)).alloc (.cells #[.bool false, .slice none 0 0, .bool false, .slice none 0 0] 100)) = WW at *
  have Y1 : Blk _ w.heap.size _ := T0.b 0 rfl; have g0 := Y1.c 0 rfl; have g1 := Y1.c 1 rfl; have g2 := Y1.c 2 rfl; have g3 := Y1.c 3 rfl; clear Y1
  have Y0 : Blk _ (w.heap.size + 1) _ := T0.b 1 rfl; have q0 := Y0.c 0 rfl; have q1 := Y0.c 1 rfl; clear Y0
  by_cases h1 : (x - a) * (c - a) + (y - b) * (d - b) ≤ 0
  · have HQ : Hid (rtV ((x - a) * (x - a) + (y - b) * (y - b)) 1 = nearW a b c d x y) := by show _ = _; unfold nearW; rw [if_pos h1]; exact (ratV_one _).symm
    clear E p5 p6 p7 p8 u1 u2 u3 u4
    go_wp2_with fail
    refine (int_any ((x - a) * (x - a) + (y - b) * (y - b)) _ (by omega) (by omega)).mono ?_
    rintro e v1 ⟨s1, o1, n1, c1, d1, rfl, N1, hB⟩
    replace T0 := T0.step hB
    clear hB g0 g1 g2 g3 q0 q1
    go_wp2_with fail
    refine (int_any 1 _ (by decide) (by decide)).mono ?_
    rintro e v2 ⟨s2, o2, n2, c2, d2, rfl, N2, hB⟩
    replace T0 := T0.step hB
    replace N1 := N1.below hB
    clear hB
    have K1 : Hid (IsNum v2 s1 o1 n1 c1 d1 ((x - a) * (x - a) + (y - b) * (y - b)) 2) := N1
    have K2 : Hid (IsNum v2 s2 o2 n2 c2 d2 1 2) := N2
    have KB : Hid (Below w.heap.size w v2) := T0.below
    have KR : Hid (Blk v2 (w.heap.size + 1 + 1) [.bool false, .slice none 0 0, .bool false, .slice none 0 0]) := T0.b 2 rfl
    have p0 := (T0.b 2 rfl).c 0 rfl; have r0 := (T0.b 2 rfl).f 0 rfl; have p1 := (T0.b 2 rfl).c 1 rfl; have r1 := (T0.b 2 rfl).f 1 rfl; have p2 := (T0.b 2 rfl).c 2 rfl; have r2 := (T0.b 2 rfl).f 2 rfl; have p3 := (T0.b 2 rfl).c 3 rfl; have r3 := (T0.b 2 rfl).f 3 rfl; have plt := (T0.b 2 rfl).lt
    clear N1 N2 T0
    go_wp2
    refine bodyPost_ret (v := .agg #[.bool s1, .slice o1 n1 c1, .bool s2, .slice o2 n2 c2]) (by simp [results, Try.results59, go_sem, p0, p1, p2, p3]) rfl ?_
    exact ⟨_, _, 2, by omega, HQ.out, nums_ret (by omega) KR.out K1.out K2.out KB.out⟩
  · by_cases h2 : (x - a) * (c - a) + (y - b) * (d - b) ≥ (c - a) * (c - a) + (d - b) * (d - b)
    · have HQ : Hid (rtV ((x - c) * (x - c) + (y - d) * (y - d)) 1 = nearW a b c d x y) := by show _ = _; unfold nearW; rw [if_neg h1, if_pos (by rw [E.out]; omega)]; exact (ratV_one _).symm
      clear E p1 p2 p3 p4 u1 u2 u3 u4
      go_wp2_with fail
      refine (int_any ((x - c) * (x - c) + (y - d) * (y - d)) _ (by omega) (by omega)).mono ?_
      rintro e v1 ⟨s1, o1, n1, c1, d1, rfl, N1, hB⟩
      replace T0 := T0.step hB
      clear hB g0 g1 g2 g3 q0 q1
      go_wp2_with fail
      refine (int_any 1 _ (by decide) (by decide)).mono ?_
      rintro e v2 ⟨s2, o2, n2, c2, d2, rfl, N2, hB⟩
      replace T0 := T0.step hB
      replace N1 := N1.below hB
      clear hB
      have K1 : Hid (IsNum v2 s1 o1 n1 c1 d1 ((x - c) * (x - c) + (y - d) * (y - d)) 2) := N1
      have K2 : Hid (IsNum v2 s2 o2 n2 c2 d2 1 2) := N2
      have KB : Hid (Below w.heap.size w v2) := T0.below
      have KR : Hid (Blk v2 (w.heap.size + 1 + 1) [.bool false, .slice none 0 0, .bool false, .slice none 0 0]) := T0.b 2 rfl
      have p0 := (T0.b 2 rfl).c 0 rfl; have r0 := (T0.b 2 rfl).f 0 rfl; have p1 := (T0.b 2 rfl).c 1 rfl; have r1 := (T0.b 2 rfl).f 1 rfl; have p2 := (T0.b 2 rfl).c 2 rfl; have r2 := (T0.b 2 rfl).f 2 rfl; have p3 := (T0.b 2 rfl).c 3 rfl; have r3 := (T0.b 2 rfl).f 3 rfl; have plt := (T0.b 2 rfl).lt
      clear N1 N2 T0
      go_wp2
      refine bodyPost_ret (v := .agg #[.bool s1, .slice o1 n1 c1, .bool s2, .slice o2 n2 c2]) (by simp [results, Try.results59, go_sem, p0, p1, p2, p3]) rfl ?_
      exact ⟨_, _, 2, by omega, HQ.out, nums_ret (by omega) KR.out K1.out K2.out KB.out⟩
    · have hne : (c - a) * (c - a) + (d - b) * (d - b) ≠ 0 := by
        intro h0
        obtain ⟨e1, e2⟩ := sum_sq h0
        rw [e1, e2] at h1
        simp at h1
      have HQ : Hid (ratV (((c - a) * (y - b) - (d - b) * (x - a)) * ((c - a) * (y - b) - (d - b) * (x - a))) ((c - a) * (c - a) + (d - b) * (d - b)) = nearW a b c d x y) := by show _ = _; unfold nearW; rw [if_neg h1, if_neg (by rw [E.out]; omega)]
      have HN : Hid ((c - a) * (c - a) + (d - b) * (d - b) ≠ 0) := hne
      clear E p1 p2 p3 p4 p5 p6 p7 p8 hne
      go_wp2_with fail
      refine (int_any ((c - a) * (y - b) - (d - b) * (x - a)) _ (by omega) (by omega)).mono ?_
      rintro e v1 ⟨s1, o1, n1, c1, d1, rfl, N1, hB⟩
      replace T0 := (T0.step hB).alloc (.cells #[.bool s1, .slice o1 n1 c1] 89)
      have X1 := Blk.new v1 [.bool s1, .slice o1 n1 c1] 89 rfl
      replace N1 := N1.alloc (.cells #[.bool s1, .slice o1 n1 c1] 89)
      clear hB g0 g1 g2 g3 q0 q1
      have f0 := X1.c 0 rfl; have f1 := X1.c 1 rfl
      go_wp2_with fail
      refine (mul_any s1 s1 o1 o1 n1 n1 c1 c1 2 d1 d1 _ _ _ N1 N1 (by omega)).mono ?_
      rintro e v2 ⟨s2, o2, n2, c2, d2, rfl, N2, hB⟩
      replace T0 := T0.step hB
      clear hB N1 X1 f0 f1
      go_wp2_with fail
      refine (int_any ((c - a) * (c - a) + (d - b) * (d - b)) _ (by omega) (by omega)).mono ?_
      rintro e v3 ⟨s3, o3, n3, c3, d3, rfl, N3, hB⟩
      replace T0 := T0.step hB
      replace N2 := N2.below hB
      clear hB
      go_wp2_with fail
      refine (l2Make_any s2 o2 n2 c2 d2 s3 o3 n3 c3 d3 _ _ 4 (by omega) (by omega) _ N2 (num_more N3 (by omega)) HN.out).mono ?_
      rintro e v4 ⟨s4, o4, n4, c4, d4, s5, o5, n5, c5, d5, rfl, N4, N5, hB⟩
      replace T0 := T0.step hB
      have K1 : Hid (IsNum v4 s4 o4 n4 c4 d4 _ (4 + 3)) := N4
      have K2 : Hid (IsNum v4 s5 o5 n5 c5 d5 _ (4 + 3)) := N5
      have KB : Hid (Below w.heap.size w v4) := T0.below
      have KR : Hid (Blk v4 (w.heap.size + 1 + 1) [.bool false, .slice none 0 0, .bool false, .slice none 0 0]) := T0.b 2 rfl
      have p0 := (T0.b 2 rfl).c 0 rfl; have r0 := (T0.b 2 rfl).f 0 rfl; have p1 := (T0.b 2 rfl).c 1 rfl; have r1 := (T0.b 2 rfl).f 1 rfl; have p2 := (T0.b 2 rfl).c 2 rfl; have r2 := (T0.b 2 rfl).f 2 rfl; have p3 := (T0.b 2 rfl).c 3 rfl; have r3 := (T0.b 2 rfl).f 3 rfl; have plt := (T0.b 2 rfl).lt
      clear N2 N3 N4 N5 T0 hB
      go_wp2
      refine bodyPost_ret (v := .agg #[.bool s4, .slice o4 n4 c4, .bool s5, .slice o5 n5 c5]) (by simp [results, Try.results59, go_sem, p0, p1, p2, p3]) rfl ?_
      exact ⟨_, _, 4 + 3, by omega, (ratV_rt HN.out).symm.trans HQ.out, nums_ret (by omega) KR.out K1.out K2.out KB.out⟩
end Go.Proofs.Ytmjlgmoohpnhfaa

/- Fractions in their order: the model's walks. -/
namespace Go.Proofs.Ytmjlgmoohpnhfaa
open Go.RowKit
theorem lc_cells {s1 s2 s3 s4 : Bool} {o1 o2 o3 o4 : Option Addr} {n1 n2 n3 n4 c1 c2 c3 c4 : Nat} {w W : World} (h : ArgsB w W [[.bool s1, .slice o1 n1 c1, .bool s2, .slice o2 n2 c2], [.bool s3, .slice o3 n3 c3, .bool s4, .slice o4 n4 c4]]) : (fun w' => w'.cell? ⟨w.heap.size, 0, none⟩ = some (.bool s1) ∧ w'.cell? ⟨w.heap.size, 1, none⟩ = some (.slice o1 n1 c1) ∧ w'.cell? ⟨w.heap.size, 2, none⟩ = some (.bool s2) ∧ w'.cell? ⟨w.heap.size, 3, none⟩ = some (.slice o2 n2 c2) ∧ w'.cell? ⟨w.heap.size + 1, 0, none⟩ = some (.bool s3) ∧ w'.cell? ⟨w.heap.size + 1, 1, none⟩ = some (.slice o3 n3 c3) ∧ w'.cell? ⟨w.heap.size + 1, 2, none⟩ = some (.bool s4) ∧ w'.cell? ⟨w.heap.size + 1, 3, none⟩ = some (.slice o4 n4 c4)) W :=
  ⟨(h.b 0 rfl).c 0 rfl, (h.b 0 rfl).c 1 rfl, (h.b 0 rfl).c 2 rfl, (h.b 0 rfl).c 3 rfl, (h.b 1 rfl).c 0 rfl, (h.b 1 rfl).c 1 rfl, (h.b 1 rfl).c 2 rfl, (h.b 1 rfl).c 3 rfl⟩
set_option maxRecDepth 100000 in
set_option maxHeartbeats 2000000 in
theorem l2Cmp_any (s1 : Bool) (o1 : Option Addr) (n1 c1 : Nat) (ds1 : List Int) (s2 : Bool) (o2 : Option Addr) (n2 c2 : Nat) (ds2 : List Int) (s3 : Bool) (o3 : Option Addr) (n3 c3 : Nat) (ds3 : List Int) (s4 : Bool) (o4 : Option Addr) (n4 c4 : Nat) (ds4 : List Int) (x y u v : Int) (w : World) (N1 : IsNum w s1 o1 n1 c1 ds1 x 8) (N2 : IsNum w s2 o2 n2 c2 ds2 y 8) (N3 : IsNum w s3 o3 n3 c3 ds3 u 8) (N4 : IsNum w s4 o4 n4 c4 ds4 v 8) :
    Calls Try.prog 60 #[.agg #[.bool s1, .slice o1 n1 c1, .bool s2, .slice o2 n2 c2], .agg #[.bool s3, .slice o3 n3 c3, .bool s4, .slice o4 n4 c4]] w (IntP (cmpI (x * v) (u * y)) w) := by
  have T0 : ArgsB w ((w.alloc (.cells #[.bool s1, .slice o1 n1 c1, .bool s2, .slice o2 n2 c2] 100)).alloc (.cells #[.bool s3, .slice o3 n3 c3, .bool s4, .slice o4 n4 c4] 100)) [[.bool s1, .slice o1 n1 c1, .bool s2, .slice o2 n2 c2], [.bool s3, .slice o3 n3 c3, .bool s4, .slice o4 n4 c4]] := by
    refine ⟨((Below.refl _ _).alloc (Nat.le_refl _) _).alloc (by simp) _, fun j vs hj => ?_⟩
    match j, hj with
    | 0, hj => cases hj; exact (Blk.new w [.bool s1, .slice o1 n1 c1, .bool s2, .slice o2 n2 c2] 100 rfl).alloc _
    | 1, hj => cases hj; exact Blk.new (w.alloc (.cells #[.bool s1, .slice o1 n1 c1, .bool s2, .slice o2 n2 c2] 100)) [.bool s3, .slice o3 n3 c3, .bool s4, .slice o4 n4 c4] 100 (by simp)
    | j + 2, hj => simp at hj
  replace N1 := N1.below T0.below
  replace N2 := N2.below T0.below
  replace N3 := N3.below T0.below
  replace N4 := N4.below T0.below
  replace N1 := N1.drew
  replace N2 := N2.drew
  replace N3 := N3.drew
  replace N4 := N4.drew
  replace T0 := T0.drew
  have tok1 : True := trivial
  go_enter Try.func60, Try.ntmps60
  go_wp2_with fail
  generalize ((w.alloc (.cells #[.bool s1, .slice o1 n1 c1, .bool s2, .slice o2 n2 c2] 100)).alloc (.cells #[.bool s3, .slice o3 n3 c3, .bool s4, .slice o4 n4 c4] 100)) = W at *
  go_region_held3 (fun w' => w'.cell? ⟨w.heap.size, 0, none⟩ = some (.bool s1) ∧ w'.cell? ⟨w.heap.size, 1, none⟩ = some (.slice o1 n1 c1) ∧ w'.cell? ⟨w.heap.size, 2, none⟩ = some (.bool s2) ∧ w'.cell? ⟨w.heap.size, 3, none⟩ = some (.slice o2 n2 c2) ∧ w'.cell? ⟨w.heap.size + 1, 0, none⟩ = some (.bool s3) ∧ w'.cell? ⟨w.heap.size + 1, 1, none⟩ = some (.slice o3 n3 c3) ∧ w'.cell? ⟨w.heap.size + 1, 2, none⟩ = some (.bool s4) ∧ w'.cell? ⟨w.heap.size + 1, 3, none⟩ = some (.slice o4 n4 c4)) (first | (with_reducible exact lc_cells T0) | (with_reducible exact lc_cells T0.drew))
    (first
      | (go_at_call 109; have _t := tok1; refine (mul_any s1 s4 o1 o4 n1 n4 c1 c4 8 ds1 ds4 _ _ _ N1 N4 (by omega)).mono ?_; rintro e w1 ⟨s5, o5, n5, c5, ds5, rfl, N5, hB⟩; (first | (have T1 : ArgsB w w1 [[.bool s1, .slice o1 n1 c1, .bool s2, .slice o2 n2 c2], [.bool s3, .slice o3 n3 c3, .bool s4, .slice o4 n4 c4]] := (by with_reducible exact T0.step hB); replace N2 := N2.below hB; replace N3 := N3.below hB) | (have T1 : ArgsB w w1 [[.bool s1, .slice o1 n1 c1, .bool s2, .slice o2 n2 c2], [.bool s3, .slice o3 n3 c3, .bool s4, .slice o4 n4 c4]] := (by with_reducible exact T0.drew.step hB); replace N2 := N2.drew.below hB; replace N3 := N3.drew.below hB)); clear T0; have T0 := T1; clear T1; clear hB tok1 _t N1 N4)
      | (go_at_call 109; refine (mul_any s3 s2 o3 o2 n3 n2 c3 c2 8 ds3 ds2 _ _ _ N3 N2 (by omega)).mono ?_; rintro e w2 ⟨s6, o6, n6, c6, ds6, rfl, N6, hB⟩; (first | (have T1 : ArgsB w w2 [[.bool s1, .slice o1 n1 c1, .bool s2, .slice o2 n2 c2], [.bool s3, .slice o3 n3 c3, .bool s4, .slice o4 n4 c4]] := (by with_reducible exact T0.step hB); replace N5 := N5.below hB) | (have T1 : ArgsB w w2 [[.bool s1, .slice o1 n1 c1, .bool s2, .slice o2 n2 c2], [.bool s3, .slice o3 n3 c3, .bool s4, .slice o4 n4 c4]] := (by with_reducible exact T0.drew.step hB); replace N5 := N5.drew.below hB)); clear T0; have T0 := T1; clear T1; clear hB N2 N3)
      | (go_at_call 91; refine (cmp_any s5 s6 o5 o6 n5 n6 c5 c6 (8 + 8) ds5 ds6 _ _ _ N5 N6 (by omega)).mono ?_; rintro e w3 ⟨rfl, hB⟩; (first | (have T1 : ArgsB w w3 [[.bool s1, .slice o1 n1 c1, .bool s2, .slice o2 n2 c2], [.bool s3, .slice o3 n3 c3, .bool s4, .slice o4 n4 c4]] := (by with_reducible exact T0.step hB)) | (have T1 : ArgsB w w3 [[.bool s1, .slice o1 n1 c1, .bool s2, .slice o2 n2 c2], [.bool s3, .slice o3 n3 c3, .bool s4, .slice o4 n4 c4]] := (by with_reducible exact T0.drew.step hB))); clear T0; have T0 := T1; clear T1; clear hB N5 N6))
  all_goals have HB := T0.below
  all_goals clear T0
  all_goals go_wp2
  all_goals go_ret
  all_goals exact ⟨by simp, by first | exact HB | exact HB.drew⟩
end Go.Proofs.Ytmjlgmoohpnhfaa

/- The walk of the model's point in lowest terms. -/
namespace Go.Proofs.Ytmjlgmoohpnhfaa
open Go.RowKit
/-- The three numbers as they lie in the arguments' places. -/
def CutT3 (w wx : World) (x y z : Int) (k : Nat) : Prop :=
  ∃ (s1 : Bool) (o1 : Option Addr) (n1 c1 : Nat) (d1 : List Int) (s2 : Bool) (o2 : Option Addr) (n2 c2 : Nat) (d2 : List Int) (s3 : Bool) (o3 : Option Addr) (n3 c3 : Nat) (d3 : List Int), ArgsB w wx [[.bool s1, .slice o1 n1 c1], [.bool s2, .slice o2 n2 c2], [.bool s3, .slice o3 n3 c3], [.bool false, .slice none 0 0, .bool false, .slice none 0 0, .bool false, .slice none 0 0]] ∧ IsNum wx s1 o1 n1 c1 d1 x k ∧ IsNum wx s2 o2 n2 c2 d2 y k ∧ IsNum wx s3 o3 n3 c3 d3 z k
theorem CutT3.drew {w W : World} {x y z : Int} {k : Nat} (h : CutT3 w W x y z k) : CutT3 w W.drew x y z k := by
  obtain ⟨s1, o1, n1, c1, d1, s2, o2, n2, c2, d2, s3, o3, n3, c3, d3, A, N1, N2, N3⟩ := h
  exact ⟨s1, o1, n1, c1, d1, s2, o2, n2, c2, d2, s3, o3, n3, c3, d3, A.drew, N1.drew, N2.drew, N3.drew⟩
theorem ArgsB.w0 {w W : World} {a0 a1 u0 u1 : Value} {b c r : List Value} (h : ArgsB w W [[a0, a1], b, c, r]) : ArgsB w ((W.setCell ⟨w.heap.size, 0, none⟩ u0).setCell ⟨w.heap.size, 1, none⟩ u1) [[u0, u1], b, c, r] := by
  refine ⟨(h.1.setCell (by simp) _).setCell (by simp) _, fun j vs hj => ?_⟩
  match j, hj with
  | 0, hj => cases hj; exact Blk.stored2 (h.b 0 rfl) _ _
  | 1, hj => cases hj; exact Blk.set2 (h.b 1 rfl) (by omega)
  | 2, hj => cases hj; exact Blk.set2 (h.b 2 rfl) (by omega)
  | 3, hj => cases hj; exact Blk.set2 (h.b 3 rfl) (by omega)
  | j + 4, hj => simp at hj
theorem ArgsB.w1 {w W : World} {a0 a1 u0 u1 : Value} {b c r : List Value} (h : ArgsB w W [b, [a0, a1], c, r]) : ArgsB w ((W.setCell ⟨w.heap.size + 1, 0, none⟩ u0).setCell ⟨w.heap.size + 1, 1, none⟩ u1) [b, [u0, u1], c, r] := by
  refine ⟨(h.1.setCell (by simp) _).setCell (by simp) _, fun j vs hj => ?_⟩
  match j, hj with
  | 0, hj => cases hj; exact Blk.set2 (h.b 0 rfl) (by omega)
  | 1, hj => cases hj; exact Blk.stored2 (h.b 1 rfl) _ _
  | 2, hj => cases hj; exact Blk.set2 (h.b 2 rfl) (by omega)
  | 3, hj => cases hj; exact Blk.set2 (h.b 3 rfl) (by omega)
  | j + 4, hj => simp at hj
theorem ArgsB.w2 {w W : World} {a0 a1 u0 u1 : Value} {b c r : List Value} (h : ArgsB w W [b, c, [a0, a1], r]) : ArgsB w ((W.setCell ⟨w.heap.size + 1 + 1, 0, none⟩ u0).setCell ⟨w.heap.size + 1 + 1, 1, none⟩ u1) [b, c, [u0, u1], r] := by
  refine ⟨(h.1.setCell (by simp; omega) _).setCell (by simp; omega) _, fun j vs hj => ?_⟩
  match j, hj with
  | 0, hj => cases hj; exact Blk.set2 (h.b 0 rfl) (by omega)
  | 1, hj => cases hj; exact Blk.set2 (h.b 1 rfl) (by omega)
  | 2, hj => cases hj; exact Blk.stored2 (h.b 2 rfl) _ _
  | 3, hj => cases hj; exact Blk.set2 (h.b 3 rfl) (by omega)
  | j + 4, hj => simp at hj
end Go.Proofs.Ytmjlgmoohpnhfaa

/- A point of three numbers: the model's walk. -/
namespace Go.Proofs.Ytmjlgmoohpnhfaa
open Go.RowKit
end Go.Proofs.Ytmjlgmoohpnhfaa

/- Right points: in order, one only where their numbers are, the same with all parts multiplied: the reckoning. -/
namespace Go.Proofs.Ytmjlgmoohpnhfaa
open Go.RowKit
end Go.Proofs.Ytmjlgmoohpnhfaa

/- A point of three numbers: the program's walk. -/
namespace Go.Proofs.Ytmjlgmoohpnhfaa
open Go.RowKit
end Go.Proofs.Ytmjlgmoohpnhfaa

/- The middle of two points: the program's walk. -/
namespace Go.Proofs.Ytmjlgmoohpnhfaa
open Go.RowKit
end Go.Proofs.Ytmjlgmoohpnhfaa

/- What lies between two points: the reckoning, and the program's walks. -/
namespace Go.Proofs.Ytmjlgmoohpnhfaa
open Go.RowKit
end Go.Proofs.Ytmjlgmoohpnhfaa

/- The middle of two right points: the reckoning. -/
namespace Go.Proofs.Ytmjlgmoohpnhfaa
open Go.RowKit
end Go.Proofs.Ytmjlgmoohpnhfaa

/- The square of the distance of two points: the program's walk. -/
namespace Go.Proofs.Ytmjlgmoohpnhfaa
open Go.RowKit
end Go.Proofs.Ytmjlgmoohpnhfaa

/- Fractions with both parts multiplied; distances to the middle: the reckoning. -/
namespace Go.Proofs.Ytmjlgmoohpnhfaa
open Go.RowKit
end Go.Proofs.Ytmjlgmoohpnhfaa

/- What lies between two points: the program's walks. -/
namespace Go.Proofs.Ytmjlgmoohpnhfaa
open Go.RowKit
end Go.Proofs.Ytmjlgmoohpnhfaa

/- What lies between two points: the model's walk, and both sides. -/
namespace Go.Proofs.Ytmjlgmoohpnhfaa
open Go.RowKit
end Go.Proofs.Ytmjlgmoohpnhfaa

/- What lies between two points: both sides. -/
namespace Go.Proofs.Ytmjlgmoohpnhfaa
open Go.RowKit
end Go.Proofs.Ytmjlgmoohpnhfaa

/- What lies between, of the middle: the reckoning. -/
namespace Go.Proofs.Ytmjlgmoohpnhfaa
open Go.RowKit
end Go.Proofs.Ytmjlgmoohpnhfaa

/- The program's sums, products and quotients of fractions. -/
namespace Go.Proofs.Ytmjlgmoohpnhfaa
open Go.RowKit
end Go.Proofs.Ytmjlgmoohpnhfaa

/- The program's laws of two fractions, as far as they are told. -/
namespace Go.Proofs.Ytmjlgmoohpnhfaa
open Go.RowKit
end Go.Proofs.Ytmjlgmoohpnhfaa

/- Four times a fraction; fractions by their own words. -/
namespace Go.Proofs.Ytmjlgmoohpnhfaa
open Go.RowKit
theorem low_parts {n d : Int} (hd : 0 < d) : ∃ g, 0 < g ∧ n = lowN n d * g ∧ d = lowD n d * g ∧ rightB (lowN n d) (lowD n d) = true := by
  have g0 : 0 < Int.gcd n d := Int.gcd_pos_of_ne_zero_right _ (by omega)
  obtain ⟨e1, e2, -, -⟩ := low_make (x := n) (y := d) (X := n) (Y := d) (g := (Int.gcd n d : Int)) (by rw [if_neg (by omega)]) (by rw [if_neg (by omega)]) rfl (by omega)
  have hg : (0 : Int) < Int.gcd n d := by omega
  have m1 : n = lowN n d * (Int.gcd n d : Int) := by rw [← e1]; exact (Int.ediv_mul_cancel (Int.gcd_dvd_left _ _)).symm
  have m2 : d = lowD n d * (Int.gcd n d : Int) := by rw [← e2]; exact (Int.ediv_mul_cancel (Int.gcd_dvd_right _ _)).symm
  refine ⟨Int.gcd n d, hg, m1, m2, ?_⟩
  have p : 0 < lowD n d := by
    apply Decidable.byContradiction
    intro h
    have := Int.mul_nonneg (a := -lowD n d) (b := (Int.gcd n d : Int)) (by omega) (by omega)
    have e : -lowD n d * (Int.gcd n d : Int) = -(lowD n d * (Int.gcd n d : Int)) := by grind
    omega
  have q : Int.gcd (lowN n d) (lowD n d) = 1 := by
    have en : (((Int.gcd n d : Int).natAbs : Nat) : Int) = (Int.gcd n d : Int) := by omega
    have h : (Int.gcd (lowN n d * (Int.gcd n d : Int)) (lowD n d * (Int.gcd n d : Int)) : Int) = Int.gcd (lowN n d) (lowD n d) * (Int.gcd n d : Int) := by rw [Int.gcd_mul_right, Int.natCast_mul, en]
    rw [← m1, ← m2] at h
    have h2 : (Int.gcd (lowN n d) (lowD n d) : Int) * (Int.gcd n d : Int) = 1 * (Int.gcd n d : Int) := by omega
    have := Int.eq_of_mul_eq_mul_right (by omega) h2
    omega
  unfold rightB
  exact decide_eq_true ⟨p, q⟩
end Go.Proofs.Ytmjlgmoohpnhfaa

/- The square of a distance by its own two numbers: the reckoning. -/
namespace Go.Proofs.Ytmjlgmoohpnhfaa
open Go.RowKit
/-- What the square of the distance is a share of, and of what. -/
def nrX (a b c d x y : Int) : Int :=
  if (x - a) * (c - a) + (y - b) * (d - b) ≤ 0 then (x - a) * (x - a) + (y - b) * (y - b)
  else if (x - c) * (c - a) + (y - d) * (d - b) ≥ 0 then (x - c) * (x - c) + (y - d) * (y - d)
  else ((c - a) * (y - b) - (d - b) * (x - a)) * ((c - a) * (y - b) - (d - b) * (x - a))
def nrY (a b c d x y : Int) : Int :=
  if (x - a) * (c - a) + (y - b) * (d - b) ≤ 0 then 1 else if (x - c) * (c - a) + (y - d) * (d - b) ≥ 0 then 1 else (c - a) * (c - a) + (d - b) * (d - b)
def nU (a b c d x y : Int) : Int := lowN (nrX a b c d x y) (nrY a b c d x y)
def nV (a b c d x y : Int) : Int := lowD (nrX a b c d x y) (nrY a b c d x y)
theorem nearW_nr (a b c d x y : Int) : nearW a b c d x y = ratV (nrX a b c d x y) (nrY a b c d x y) := by
  unfold nearW nrX nrY
  split
  · rfl
  · split <;> rfl
theorem sq_in {p M : Int} (h1 : -M ≤ p) (h2 : p ≤ M) : 0 ≤ p * p ∧ p * p ≤ M * M := by
  refine ⟨?_, (mul_in h1 h2 h1 h2).2⟩
  rcases Int.le_total 0 p with h | h
  · exact Int.mul_nonneg h h
  · exact Int.mul_nonneg_of_nonpos_of_nonpos h h
theorem nr_bounds {a b c d x y : Int} (h1 : segOk a b c d = true) (h2 : spotOk x y = true) : 0 ≤ nrX a b c d x y ∧ nrX a b c d x y ≤ 64000000000000000000000000 ∧ 0 < nrY a b c d x y ∧ nrY a b c d x y ≤ 64000000000000000000000000 := by
  unfold segOk spotOk lessI at h1
  unfold spotOk at h2
  simp at h1 h2
  obtain ⟨⟨⟨p1, p2, p3, p4⟩, q1, q2, q3, q4⟩, hl⟩ := h1
  obtain ⟨r1, r2, r3, r4⟩ := h2
  have s1 := sq_in (p := x - a) (M := 2000000) (by omega) (by omega)
  have s2 := sq_in (p := y - b) (M := 2000000) (by omega) (by omega)
  have s3 := sq_in (p := x - c) (M := 2000000) (by omega) (by omega)
  have s4 := sq_in (p := y - d) (M := 2000000) (by omega) (by omega)
  have s5 := sq_in (p := c - a) (M := 2000000) (by omega) (by omega)
  have s6 := sq_in (p := d - b) (M := 2000000) (by omega) (by omega)
  have m1 := mul_in (p := c - a) (q := y - b) (M := 2000000) (N := 2000000) (by omega) (by omega) (by omega) (by omega)
  have m2 := mul_in (p := d - b) (q := x - a) (M := 2000000) (N := 2000000) (by omega) (by omega) (by omega) (by omega)
  have s7 := sq_in (p := (c - a) * (y - b) - (d - b) * (x - a)) (M := 8000000000000) (by omega) (by omega)
  have s8 : 0 < (c - a) * (c - a) + (d - b) * (d - b) := by
    rcases hl with h | ⟨h, h'⟩
    · have : 0 < (c - a) * (c - a) := Int.mul_pos (by omega) (by omega)
      omega
    · have : 0 < (d - b) * (d - b) := Int.mul_pos (by omega) (by omega)
      omega
  unfold nrX nrY
  split
  · omega
  · split <;> omega
theorem low_bounds {n d : Int} (h0 : 0 ≤ n) (hd : 0 < d) : 0 ≤ lowN n d ∧ lowN n d ≤ n ∧ 0 < lowD n d ∧ lowD n d ≤ d := by
  obtain ⟨g, hg, e1, e2, hr⟩ := low_parts (n := n) hd
  have hp : 0 < lowD n d := rightB_pos hr
  generalize lowN n d = u at *
  generalize lowD n d = v at *
  have hu : 0 ≤ u := by
    rcases Int.lt_or_le u 0 with h | h
    · have : u * g < 0 := Int.mul_neg_of_neg_of_pos h hg
      omega
    · exact h
  refine ⟨hu, ?_, hp, ?_⟩
  · have : u * 1 ≤ u * g := Int.mul_le_mul_of_nonneg_left (by omega) hu
    omega
  · have : v * 1 ≤ v * g := Int.mul_le_mul_of_nonneg_left (by omega) (by omega)
    omega
theorem near_nums {a b c d x y : Int} (h1 : segOk a b c d = true) (h2 : spotOk x y = true) : told (nU a b c d x y) = true ∧ told (nV a b c d x y) = true ∧ 0 < nV a b c d x y ∧ nearW a b c d x y = .tuple #[Rt (ww3 (nU a b c d x y)) (ww2 (nU a b c d x y)) (ww1 (nU a b c d x y)) (ww0 (nU a b c d x y)) (ww3 (nV a b c d x y)) (ww2 (nV a b c d x y)) (ww1 (nV a b c d x y)) (ww0 (nV a b c d x y)), .bool true] := by
  obtain ⟨b1, b2, b3, b4⟩ := nr_bounds h1 h2
  obtain ⟨l1, l2, l3, l4⟩ := low_bounds b1 b3
  have t1 : told (lowN (nrX a b c d x y) (nrY a b c d x y)) = true := told_big ⟨by omega, by omega⟩
  have t2 : told (lowD (nrX a b c d x y) (nrY a b c d x y)) = true := told_big ⟨by omega, by omega⟩
  refine ⟨t1, t2, l3, ?_⟩
  rw [nearW_nr]
  unfold ratV
  rw [if_pos ⟨by omega, t1, t2⟩]
  rfl
/-- What is told so has just these numbers. -/
theorem near_det {a b c d x y U V : Int} (h1 : segOk a b c d = true) (h2 : spotOk x y = true) (h : rtV U V = nearW a b c d x y) : U = nU a b c d x y ∧ V = nV a b c d x y := by
  obtain ⟨t1, t2, _, e⟩ := near_nums h1 h2
  rw [e] at h
  unfold rtV at h
  split at h
  · rename_i ht
    have h' := h
    simp only [Value.tuple.injEq] at h'
    have w1 := ww_sw ht.1
    have w2 := ww_sw ht.2
    have w3 := ww_sw t1
    have w4 := ww_sw t2
    generalize nU a b c d x y = u at *
    generalize nV a b c d x y = v at *
    simp [Rt] at h'
    obtain ⟨e1, e2, e3, e4, e5, e6, e7, e8⟩ := h'
    rw [e1, e2, e3, e4, w3] at w1
    rw [e5, e6, e7, e8, w4] at w2
    exact ⟨w1.symm, w2.symm⟩
  · simp at h
/-- A number that is told has at most eight digits. -/
theorem num_eight {w : World} {s : Bool} {ao : Option Addr} {n cap : Nat} {ds : List Int} {z : Int} {k : Nat} (h : IsNum w s ao n cap ds z k) (ht : told z = true) : IsNum w s ao n cap ds z 8 := by
  refine ⟨h.neg, h.len, h.cap, h.rd, h.nrm, h.val, ?_⟩
  have hv : val ds < pw 8 := by
    rw [h.val]
    unfold told at ht
    have ht := of_decide_eq_true ht
    have e : pw 8 = 115792089237316195423570985008687907853269984665640564039457584007913129639936 := by decide +kernel
    rw [e]
    omega
  have := nrm_length h.nrm 8 hv
  rw [h.len] at this
  exact this
end Go.Proofs.Ytmjlgmoohpnhfaa

/- Rows of segments: how they lie, and the walks over them. -/
namespace Go.Proofs.Ytmjlgmoohpnhfaa
open Go.RowKit
/-- n segments lie behind a slice's address, their numbers by x. -/
def SegIn (w : World) (ao : Option Addr) (n : Nat) (x : Nat → Int) : Prop :=
  ∀ i, i < n → ∃ A off, ao = some ⟨A, off, none⟩ ∧ A < w.heap.size ∧ ∀ j, j < 4 → w.cell? ⟨A, off + i * 4 + j, none⟩ = some (.int .i64 (x (i * 4 + j)))
theorem SegIn.step {w w' : World} {ao : Option Addr} {n : Nat} {x : Nat → Int} (h : SegIn w ao n x) (hB : Below w.heap.size w w') : SegIn w' ao n x := fun i hi => by
  obtain ⟨A, off, e, hA, hc⟩ := h i hi
  exact ⟨A, off, e, Nat.lt_of_lt_of_le hA hB.size, fun j hj => (hB.cell (p := ⟨A, off + i * 4 + j, none⟩) hA).trans (hc j hj)⟩
theorem SegIn.drew {w : World} {ao : Option Addr} {n : Nat} {x : Nat → Int} (h : SegIn w ao n x) : SegIn w.drew ao n x := h
theorem segIn_row {w : World} {g n : Nat} {T : TypeId} {x : Nat → Int} (h : w.rowIs g T (n * 4) (fun i => .int .i64 (x i))) : SegIn w (some ⟨g, 0, none⟩) n x := fun i hi =>
  ⟨g, 0, rfl, h.lt, fun j hj => by rw [Nat.zero_add]; exact h.cell (by omega)⟩
/-- What is at fault in a row of segments. -/
def sgI (n : Nat) (x : Nat → Int) : Int := if 40 < n then 1 else if ∀ i, i < n → segOk (x (i * 4)) (x (i * 4 + 1)) (x (i * 4 + 2)) (x (i * 4 + 3)) = true then 0 else 2
set_option maxRecDepth 100000 in
set_option maxHeartbeats 2000000 in
theorem specSegsFault_any (ao : Option Addr) (n cap : Nat) (x : Nat → Int) (w : World) (hS : SegIn w ao n x) : Calls Try.prog 107 #[.slice ao n cap] w (VP (.int .i64 (sgI n x)) w) := by
  by_cases hn : 40 < n
  · have HO : Hid (sgI n x = 1) := by show _ = _; unfold sgI; rw [if_pos hn]
    go_enter Try.func107, Try.ntmps107
    have hn' : (40 : Int) < n := by omega
    clear hS
    go_wp2
    go_ret
    exact ⟨by rw [HO.out]; rfl, Below.refl _ _⟩
  · go_enter Try.func107, Try.ntmps107
    have hn' : (n : Int) ≤ 40 := by omega
    have HS : Hid (SegIn w ao n x) := hS
    clear hS
    go_wp2_with fail
    go_loopw [3] (fun i wr => ∃ c : Nat, c ≤ n ∧ i = .int .i64 c ∧ (∀ j, j < c → segOk (x (j * 4)) (x (j * 4 + 1)) (x (j * 4 + 2)) (x (j * 4 + 3)) = true) ∧ Below w.heap.size w wr) (fun i _ => n - (intOf i).toNat)
    case atStart => exact ⟨0, by omega, rfl, fun j hj => by omega, Below.refl _ _⟩
    case round =>
      obtain ⟨c, hc, rfl, hall, HB⟩ := hrel
      have HA : Hid (∀ j, j < c → segOk (x (j * 4)) (x (j * 4 + 1)) (x (j * 4 + 2)) (x (j * 4 + 3)) = true) := hall
      clear hall
      by_cases hcn : c < n
      · obtain ⟨A, off, rfl, hA, hcell⟩ := HS.out.step HB c hcn
        have q0 := hcell 0 (by omega); have q1 := hcell 1 (by omega); have q2 := hcell 2 (by omega); have q3 := hcell 3 (by omega)
        simp only [Nat.add_zero] at q0
        have hcI : (c : Int) < n := by omega
        have SO := fun w => specSegOk_any (x (c * 4)) (x (c * 4 + 1)) (x (c * 4 + 2)) (x (c * 4 + 3)) _ rfl w
        clear hcell
        go_wp2_with fail
        refine (SO _).mono ?_
        rintro e w1 ⟨rfl, hB⟩
        
        replace HB := HB.trans (hB.mono HB.size)
        clear hB q0 q1 q2 q3 SO hA
        by_cases hk : segOk (x (c * 4)) (x (c * 4 + 1)) (x (c * 4 + 2)) (x (c * 4 + 3)) = true
        · rw [hk]
          have HK : Hid (segOk (x (c * 4)) (x (c * 4 + 1)) (x (c * 4 + 2)) (x (c * 4 + 3)) = true) := hk
          clear hk
          go_wp2
          go_roundw
          case rel => exact ⟨c + 1, by omega, by go_num, fun j hj => by
            rcases Nat.lt_or_ge j c with h | h
            · exact HA.out j h
            · obtain rfl : j = c := by omega
              exact HK.out, HB⟩
          case measure => simp [intOf]; omega
        · have HO : Hid (sgI n x = 2) := by show _ = _; unfold sgI; rw [if_neg hn, if_neg (fun h => hk (h c hcn))]
          rw [Bool.eq_false_iff.2 hk]
          clear hk
          go_wp2
          go_ret
          exact ⟨by rw [HO.out]; rfl, HB⟩
      · obtain rfl : c = n := by omega
        have HO : Hid (sgI c x = 0) := by show _ = _; unfold sgI; rw [if_neg hn, if_pos HA.out]
        clear HA HS
        go_wp2
        go_ret
        exact ⟨by rw [HO.out]; rfl, HB⟩
set_option maxRecDepth 100000 in
set_option maxHeartbeats 2000000 in
theorem implSegsFault_any (ao : Option Addr) (n cap : Nat) (x : Nat → Int) (w : World) (hS : SegIn w ao n x) : Calls Try.prog 63 #[.slice ao n cap] w (VP (.int .i64 (sgI n x)) w) := by
  by_cases hn : 40 < n
  · have HO : Hid (sgI n x = 1) := by show _ = _; unfold sgI; rw [if_pos hn]
    go_enter Try.func63, Try.ntmps63
    have hn' : (40 : Int) < n := by omega
    clear hS
    go_wp2
    go_ret
    exact ⟨by rw [HO.out]; rfl, Below.refl _ _⟩
  · go_enter Try.func63, Try.ntmps63
    have hn' : (n : Int) ≤ 40 := by omega
    have HS : Hid (SegIn w ao n x) := hS
    clear hS
    go_wp2_with fail
    go_loopw [10] (fun i wr => ∃ c : Nat, c ≤ n ∧ i = .int .i64 c ∧ (∀ j, j < c → segOk (x (j * 4)) (x (j * 4 + 1)) (x (j * 4 + 2)) (x (j * 4 + 3)) = true) ∧ Below w.heap.size w wr) (fun i _ => n - (intOf i).toNat)
    case atStart => exact ⟨0, by omega, rfl, fun j hj => by omega, Below.refl _ _⟩
    case round =>
      obtain ⟨c, hc, rfl, hall, HB⟩ := hrel
      have HA : Hid (∀ j, j < c → segOk (x (j * 4)) (x (j * 4 + 1)) (x (j * 4 + 2)) (x (j * 4 + 3)) = true) := hall
      clear hall
      by_cases hcn : c < n
      · obtain ⟨A, off, rfl, hA, hcell⟩ := HS.out.step HB c hcn
        have q0 := hcell 0 (by omega); have q1 := hcell 1 (by omega); have q2 := hcell 2 (by omega); have q3 := hcell 3 (by omega)
        simp only [Nat.add_zero] at q0
        have hcI : (c : Int) < n := by omega
        have SO := fun w => implSegOk_any (x (c * 4)) (x (c * 4 + 1)) (x (c * 4 + 2)) (x (c * 4 + 3)) _ rfl w
        clear hcell
        go_wp2_with fail
        refine (SO _).mono ?_
        rintro e w1 ⟨rfl, hB⟩
        
        replace HB := (HB.alloc HB.size _).trans (hB.mono (HB.alloc HB.size _).size)
        clear hB q0 q1 q2 q3 SO hA
        by_cases hk : segOk (x (c * 4)) (x (c * 4 + 1)) (x (c * 4 + 2)) (x (c * 4 + 3)) = true
        · rw [hk]
          have HK : Hid (segOk (x (c * 4)) (x (c * 4 + 1)) (x (c * 4 + 2)) (x (c * 4 + 3)) = true) := hk
          clear hk
          go_wp2
          go_roundw
          case rel => exact ⟨c + 1, by omega, by go_num, fun j hj => by
            rcases Nat.lt_or_ge j c with h | h
            · exact HA.out j h
            · obtain rfl : j = c := by omega
              exact HK.out, HB⟩
          case measure => simp [intOf]; omega
        · have HO : Hid (sgI n x = 2) := by show _ = _; unfold sgI; rw [if_neg hn, if_neg (fun h => hk (h c hcn))]
          rw [Bool.eq_false_iff.2 hk]
          clear hk
          go_wp2
          go_ret
          exact ⟨by rw [HO.out]; rfl, HB⟩
      · obtain rfl : c = n := by omega
        have HO : Hid (sgI c x = 0) := by show _ = _; unfold sgI; rw [if_neg hn, if_pos HA.out]
        clear HA HS
        go_wp2
        go_ret
        exact ⟨by rw [HO.out]; rfl, HB⟩
end Go.Proofs.Ytmjlgmoohpnhfaa

/- Rows of segments: copied and held against one another; the law of what is at fault in them. -/
namespace Go.Proofs.Ytmjlgmoohpnhfaa
open Go.RowKit
theorem eqSpot_same (x y : Int) (w : World) : Calls Try.prog 77 #[Sp x y, Sp x y] w (BoolP true w) := by
  go_enter Try.func77, Try.ntmps77
  go_wp2
  go_ret
  exact ⟨rfl, ((Below.refl _ _).alloc (Nat.le_refl _) _).alloc (by simp) _⟩
set_option maxRecDepth 100000 in
theorem eqSeg_same (a b c d : Int) (w : World) : Calls Try.prog 67 #[Sg a b c d, Sg a b c d] w (BoolP true w) := by
  have B0 := (Blk.new w [.int .i64 a, .int .i64 b, .int .i64 c, .int .i64 d] 103 rfl).alloc (.cells #[.int .i64 a, .int .i64 b, .int .i64 c, .int .i64 d] 103)
  have B1 := Blk.new (w.alloc (.cells #[.int .i64 a, .int .i64 b, .int .i64 c, .int .i64 d] 103)) [.int .i64 a, .int .i64 b, .int .i64 c, .int .i64 d] 103 (g := w.heap.size + 1) (by simp)
  have HB0 := ((Below.refl _ w).alloc (Nat.le_refl _) (.cells #[.int .i64 a, .int .i64 b, .int .i64 c, .int .i64 d] 103)).alloc (by simp) (.cells #[.int .i64 a, .int .i64 b, .int .i64 c, .int .i64 d] 103)
  go_enter Try.func67, Try.ntmps67
  go_wp2_with fail
  refine (eqSpot_same _ _ _).mono ?_
  rintro e w1 ⟨rfl, hB⟩
  replace B0 := B0.step hB; replace B1 := B1.step hB
  have HB : Below w.heap.size w w1 := HB0.trans (hB.mono HB0.size)
  clear hB HB0
  have p2 := B0.c 2 rfl; have p3 := B0.c 3 rfl; have q2 := B1.c 2 rfl; have q3 := B1.c 3 rfl
  go_wp2_with fail
  refine (eqSpot_same _ _ _).mono ?_
  rintro e w2 ⟨rfl, hB⟩
  have HB2 : Below w.heap.size w w2 := HB.trans (hB.mono HB.size)
  clear hB HB
  go_wp2
  go_ret
  exact ⟨rfl, HB2⟩
theorem Try.infoSeg : (Try.prog.info? 103).map (fun i => (i.zero, i.size, i.bytes)) = some (some (.agg #[.int .i64 0, .int .i64 0, .int .i64 0, .int .i64 0]), 4, 32) := by kernel_rfl
theorem make_segs (n : Nat) (hn : n ≤ 1048576) (w : World) : (Instr.makeSlice 53 (.int .i64 (n : Int)) (.int .i64 (n : Int))).run Try.prog w = .ok (.slice (some ⟨w.heap.size, 0, none⟩) n n) (w.alloc (.cells (madeCells #[.int .i64 0, .int .i64 0, .int .i64 0, .int .i64 0] (n * 4)) 103)) := by
  obtain ⟨i, hi, hzz⟩ := Option.map_eq_some_iff.1 Try.infoSeg
  simp only [Prod.mk.injEq] at hzz
  obtain ⟨hz, hs, hb⟩ := hzz
  have hr := run_make (P := Try.prog) w 53 103 i (.agg #[.int .i64 0, .int .i64 0, .int .i64 0, .int .i64 0]) Try.underlying53 hi hz .i64 .i64 n n (by omega) (Int.le_refl _) (by rw [hb]; omega) (by omega)
  simp only [Int.toNat_natCast, hs, Value.cells] at hr
  exact hr
theorem row_made (w : World) (n : Nat) (T : TypeId) : (w.alloc (.cells (madeCells #[.int .i64 0, .int .i64 0, .int .i64 0, .int .i64 0] (n * 4)) T)).rowIs w.heap.size T (n * 4) (fun _ => .int .i64 0) := by
  have h := World.rowIs_alloc w (madeCells #[.int .i64 0, .int .i64 0, .int .i64 0, .int .i64 0] (n * 4)) T (fun _ => .int .i64 0) (fun i hi => by
    rw [size_madeCells] at hi
    simp [madeCells, hi]
    rcases (show i % 4 = 0 ∨ i % 4 = 1 ∨ i % 4 = 2 ∨ i % 4 = 3 by omega) with h | h | h | h <;> simp [h])
  rwa [size_madeCells] at h
/-- So far the row holds what was copied, behind it zeros. -/
def cpF (x : Nat → Int) (c : Nat) (i : Nat) : Value := .int .i64 (if i < c * 4 then x i else 0)
theorem row_step {w w' : World} {g n : Nat} {T : TypeId} {f : Nat → Value} (h : w.rowIs g T n f) (hB : Below w.heap.size w w') : w'.rowIs g T n f := h.of_block (hB.block g h.lt)
theorem cp_step {w : World} {g n c : Nat} {T : TypeId} {x : Nat → Int} (h : w.rowIs g T (n * 4) (cpF x c)) (_hc : c < n) :
    ((((w.setCell ⟨g, c * 4, none⟩ (.int .i64 (x (c * 4)))).setCell ⟨g, c * 4 + 1, none⟩ (.int .i64 (x (c * 4 + 1)))).setCell ⟨g, c * 4 + 2, none⟩ (.int .i64 (x (c * 4 + 2)))).setCell ⟨g, c * 4 + 3, none⟩ (.int .i64 (x (c * 4 + 3)))).rowIs g T (n * 4) (cpF x (c + 1)) := by
  refine ((((h.set (c * 4) (.int .i64 (x (c * 4)))).set (c * 4 + 1) (.int .i64 (x (c * 4 + 1)))).set (c * 4 + 2) (.int .i64 (x (c * 4 + 2)))).set (c * 4 + 3) (.int .i64 (x (c * 4 + 3)))).congr (fun i hi => ?_)
  unfold cpF
  by_cases h3 : i = c * 4 + 3
  · subst h3; simp <;> omega
  by_cases h2 : i = c * 4 + 2
  · subst h2; simp <;> omega
  by_cases h1 : i = c * 4 + 1
  · subst h1; simp <;> omega
  by_cases h0 : i = c * 4
  · subst h0; simp <;> omega
  simp [h3, h2, h1, h0]
  by_cases hl : i < c * 4
  · simp [hl] <;> omega
  · simp [hl] <;> omega
set_option maxRecDepth 100000 in
set_option maxHeartbeats 2000000 in
theorem toSegS_any (ao : Option Addr) (n cap : Nat) (x : Nat → Int) (hn : n ≤ 1048576) (w : World) (hS : SegIn w ao n x) : Calls Try.prog 24 #[.slice ao n cap] w (fun e w' => ∃ g, e = .returned (.slice (some ⟨g, 0, none⟩) n n) ∧ w'.rowIs g 103 (n * 4) (fun i => .int .i64 (x i)) ∧ Below w.heap.size w w') := by
  have MK := make_segs n hn
  have HS : Hid (SegIn w ao n x) := hS
  clear hS
  go_enter Try.func24, Try.ntmps24
  go_wp2_with fail
  have R0 := row_made w n 103
  have B0 : Below w.heap.size w (w.alloc (.cells (madeCells #[.int .i64 0, .int .i64 0, .int .i64 0, .int .i64 0] (n * 4)) 103)) := (Below.refl _ _).alloc (Nat.le_refl _) _
  generalize w.alloc (.cells (madeCells #[.int .i64 0, .int .i64 0, .int .i64 0, .int .i64 0] (n * 4)) 103) = W1 at *
  have hnI : (n : Int) ≤ 1048576 := by omega
  clear MK
  go_loopw [4] (fun i wr => ∃ c : Nat, c ≤ n ∧ i = .int .i64 c ∧ wr.rowIs w.heap.size 103 (n * 4) (cpF x c) ∧ Below w.heap.size w wr) (fun i _ => n - (intOf i).toNat)
  case atStart => exact ⟨0, by omega, rfl, R0.congr (fun i _ => by unfold cpF; simp), B0⟩
  case round =>
    clear R0 B0
    obtain ⟨c, hc, rfl, R, HB⟩ := hrel
    by_cases hcn : c < n
    · obtain ⟨A, off, rfl, hA, hcell⟩ := HS.out c hcn
      have e0 : ∀ o, wr.cell? ⟨A, o, none⟩ = w.cell? ⟨A, o, none⟩ := fun o => HB.cell (p := ⟨A, o, none⟩) hA
      have q0 := (e0 _).trans (hcell 0 (by omega)); have q1 := (e0 _).trans (hcell 1 (by omega)); have q2 := (e0 _).trans (hcell 2 (by omega)); have q3 := (e0 _).trans (hcell 3 (by omega))
      simp only [Nat.add_zero] at q0
      have hcI : (c : Int) < n := by omega
      clear hcell e0
      go_wp2_with fail
      refine (toSeg_any (x (c * 4)) (x (c * 4 + 1)) (x (c * 4 + 2)) (x (c * 4 + 3)) _).mono ?_
      rintro e w1 ⟨rfl, hB⟩
      replace R := row_step R hB
      replace HB := HB.trans (hB.mono HB.size)
      have o0 := R.cell (i := c * 4) (by omega); have o1 := R.cell (i := c * 4 + 1) (by omega); have o2 := R.cell (i := c * 4 + 2) (by omega); have o3 := R.cell (i := c * 4 + 3) (by omega)
      have f0 := R.frozen (c * 4); have f1 := R.frozen (c * 4 + 1); have f2 := R.frozen (c * 4 + 2); have f3 := R.frozen (c * 4 + 3)
      have RN := cp_step R hcn
      have HN : Below w.heap.size w ((((w1.setCell ⟨w.heap.size, c * 4, none⟩ (.int .i64 (x (c * 4)))).setCell ⟨w.heap.size, c * 4 + 1, none⟩ (.int .i64 (x (c * 4 + 1)))).setCell ⟨w.heap.size, c * 4 + 2, none⟩ (.int .i64 (x (c * 4 + 2)))).setCell ⟨w.heap.size, c * 4 + 3, none⟩ (.int .i64 (x (c * 4 + 3)))) := (((HB.setCell (by simp) _).setCell (by simp) _).setCell (by simp) _).setCell (by simp) _
      clear hB q0 q1 q2 q3 hA R HB
      go_wp2
      go_roundw
      case rel => exact ⟨c + 1, by omega, by go_num, RN, HN⟩
      case measure => simp [intOf]; omega
    · obtain rfl : c = n := by omega
      have RN : wr.rowIs w.heap.size 103 (c * 4) (fun i => .int .i64 (x i)) := R.congr (fun i hi => by unfold cpF; rw [if_pos hi])
      clear R HS
      go_wp2
      go_ret
      exact ⟨_, rfl, RN, HB⟩
end Go.Proofs.Ytmjlgmoohpnhfaa

/- Rows of segments: the law of what is at fault in them. -/
namespace Go.Proofs.Ytmjlgmoohpnhfaa
open Go.RowKit
set_option maxRecDepth 100000 in
set_option maxHeartbeats 2000000 in
theorem eqSegS_any (ao bo : Option Addr) (n ca cb : Nat) (x : Nat → Int) (hn : n ≤ 1048576) (w : World) (hA : SegIn w ao n x) (hC : SegIn w bo n x) : Calls Try.prog 28 #[.slice ao n ca, .slice bo n cb] w (BoolP true w) := by
  have HA : Hid (SegIn w ao n x) := hA
  have HC : Hid (SegIn w bo n x) := hC
  have hnI : (n : Int) ≤ 1048576 := by omega
  clear hA hC
  go_enter Try.func28, Try.ntmps28
  go_wp2_with fail
  go_loopw [5] (fun i wr => ∃ c : Nat, c ≤ n ∧ i = .int .i64 c ∧ Below w.heap.size w wr) (fun i _ => n - (intOf i).toNat)
  case atStart => exact ⟨0, by omega, rfl, Below.refl _ _⟩
  case round =>
    obtain ⟨c, hc, rfl, HB⟩ := hrel
    by_cases hcn : c < n
    · obtain ⟨A, off, rfl, hA, hcell⟩ := HA.out.step HB c hcn
      have q0 := hcell 0 (by omega); have q1 := hcell 1 (by omega); have q2 := hcell 2 (by omega); have q3 := hcell 3 (by omega)
      simp only [Nat.add_zero] at q0
      obtain ⟨B, off', rfl, hB', hcell'⟩ := HC.out.step HB c hcn
      have r0 := hcell' 0 (by omega); have r1 := hcell' 1 (by omega); have r2 := hcell' 2 (by omega); have r3 := hcell' 3 (by omega)
      simp only [Nat.add_zero] at r0
      have hcI : (c : Int) < n := by omega
      clear hcell hcell'
      have KS : (fun w' => w'.cell? ⟨A, off + c * 4, none⟩ = some (.int .i64 (x (c * 4))) ∧ w'.cell? ⟨A, off + c * 4 + 1, none⟩ = some (.int .i64 (x (c * 4 + 1))) ∧ w'.cell? ⟨A, off + c * 4 + 2, none⟩ = some (.int .i64 (x (c * 4 + 2))) ∧ w'.cell? ⟨A, off + c * 4 + 3, none⟩ = some (.int .i64 (x (c * 4 + 3))) ∧ w'.cell? ⟨B, off' + c * 4, none⟩ = some (.int .i64 (x (c * 4))) ∧ w'.cell? ⟨B, off' + c * 4 + 1, none⟩ = some (.int .i64 (x (c * 4 + 1))) ∧ w'.cell? ⟨B, off' + c * 4 + 2, none⟩ = some (.int .i64 (x (c * 4 + 2))) ∧ w'.cell? ⟨B, off' + c * 4 + 3, none⟩ = some (.int .i64 (x (c * 4 + 3)))) wr := ⟨q0, q1, q2, q3, r0, r1, r2, r3⟩
      go_wp2_with fail
      go_region_held3 (fun w' => w'.cell? ⟨A, off + c * 4, none⟩ = some (.int .i64 (x (c * 4))) ∧ w'.cell? ⟨A, off + c * 4 + 1, none⟩ = some (.int .i64 (x (c * 4 + 1))) ∧ w'.cell? ⟨A, off + c * 4 + 2, none⟩ = some (.int .i64 (x (c * 4 + 2))) ∧ w'.cell? ⟨A, off + c * 4 + 3, none⟩ = some (.int .i64 (x (c * 4 + 3))) ∧ w'.cell? ⟨B, off' + c * 4, none⟩ = some (.int .i64 (x (c * 4))) ∧ w'.cell? ⟨B, off' + c * 4 + 1, none⟩ = some (.int .i64 (x (c * 4 + 1))) ∧ w'.cell? ⟨B, off' + c * 4 + 2, none⟩ = some (.int .i64 (x (c * 4 + 2))) ∧ w'.cell? ⟨B, off' + c * 4 + 3, none⟩ = some (.int .i64 (x (c * 4 + 3)))) (first | (exact KS) | (exact KS'))
        (first
          | (go_at_call 67; refine (eqSeg_same (x (c * 4)) (x (c * 4 + 1)) (x (c * 4 + 2)) (x (c * 4 + 3)) _).mono ?_; rintro e w1 ⟨rfl, hB⟩; have KS' : (fun w' => w'.cell? ⟨A, off + c * 4, none⟩ = some (.int .i64 (x (c * 4))) ∧ w'.cell? ⟨A, off + c * 4 + 1, none⟩ = some (.int .i64 (x (c * 4 + 1))) ∧ w'.cell? ⟨A, off + c * 4 + 2, none⟩ = some (.int .i64 (x (c * 4 + 2))) ∧ w'.cell? ⟨A, off + c * 4 + 3, none⟩ = some (.int .i64 (x (c * 4 + 3))) ∧ w'.cell? ⟨B, off' + c * 4, none⟩ = some (.int .i64 (x (c * 4))) ∧ w'.cell? ⟨B, off' + c * 4 + 1, none⟩ = some (.int .i64 (x (c * 4 + 1))) ∧ w'.cell? ⟨B, off' + c * 4 + 2, none⟩ = some (.int .i64 (x (c * 4 + 2))) ∧ w'.cell? ⟨B, off' + c * 4 + 3, none⟩ = some (.int .i64 (x (c * 4 + 3)))) w1 := ⟨(hB.cell (p := ⟨A, _, none⟩) hA).trans q0, (hB.cell (p := ⟨A, _, none⟩) hA).trans q1, (hB.cell (p := ⟨A, _, none⟩) hA).trans q2, (hB.cell (p := ⟨A, _, none⟩) hA).trans q3, (hB.cell (p := ⟨B, _, none⟩) hB').trans r0, (hB.cell (p := ⟨B, _, none⟩) hB').trans r1, (hB.cell (p := ⟨B, _, none⟩) hB').trans r2, (hB.cell (p := ⟨B, _, none⟩) hB').trans r3⟩; (first | (have HB2 := HB.trans (hB.mono HB.size)) | (have HB2 := HB.drew.trans (hB.mono HB.drew.size))); clear hB))
      all_goals clear HB KS q0 q1 q2 q3 r0 r1 r2 r3
      all_goals go_wp2
      all_goals go_roundw
      case rel => exact ⟨c + 1, by omega, by go_num, HB2⟩
      case measure => simp [intOf]; omega
    · obtain rfl : c = n := by omega
      clear HA HC
      go_wp2
      go_ret
      exact ⟨rfl, HB⟩
theorem szSegS_any (ao : Option Addr) (n cap : Nat) (hn : n ≤ 9223372036854775807) (w : World) : Calls Try.prog 22 #[.slice ao n cap, .int .i64 1048576] w (VP (.int .i64 (if n ≤ 1048576 then 1048576 - n else -1)) w) := by
  have hnI : (n : Int) ≤ 9223372036854775807 := by omega
  by_cases h : n ≤ 1048576
  · rw [if_pos h]
    have h' : (n : Int) ≤ 1048576 := by omega
    go_enter Try.func22, Try.ntmps22
    go_wp2
    go_ret
    exact ⟨rfl, Below.refl _ _⟩
  · rw [if_neg h]
    have h' : (1048576 : Int) < n := by omega
    go_enter Try.func22, Try.ntmps22
    go_wp2
    go_ret
    exact ⟨rfl, Below.refl _ _⟩
end Go.Proofs.Ytmjlgmoohpnhfaa

/- Rows of numbers: how they lie; copied, held against one another. -/
namespace Go.Proofs.Ytmjlgmoohpnhfaa
open Go.RowKit
/-- n numbers lie behind a slice's address. -/
def NoIn (w : World) (ao : Option Addr) (n : Nat) (x : Nat → Int) : Prop :=
  ∀ i, i < n → ∃ A off, ao = some ⟨A, off, none⟩ ∧ A < w.heap.size ∧ w.cell? ⟨A, off + i, none⟩ = some (.int .i64 (x i))
theorem NoIn.step {w w' : World} {ao : Option Addr} {n : Nat} {x : Nat → Int} (h : NoIn w ao n x) (hB : Below w.heap.size w w') : NoIn w' ao n x := fun i hi => by
  obtain ⟨A, off, e, hA, hc⟩ := h i hi
  exact ⟨A, off, e, Nat.lt_of_lt_of_le hA hB.size, (hB.cell (p := ⟨A, off + i, none⟩) hA).trans hc⟩
end Go.Proofs.Ytmjlgmoohpnhfaa

/- Answers that own their rows of numbers: held against one another, marked, held again; a row of segments marked. -/
namespace Go.Proofs.Ytmjlgmoohpnhfaa
open Go.RowKit
/-- A slice of the call's own, with these numbers. -/
def NoOwn (w : World) (base : Nat) (v : Value) (L : List Int) : Prop :=
  (v = .slice none 0 0 ∧ L = []) ∨ ∃ g cap f, v = .slice (some ⟨g, 0, none⟩) L.length cap ∧ base ≤ g ∧ L.length ≤ cap ∧ w.rowIs g 2 cap f ∧ ∀ i, i < L.length → f i = .int .i64 (L.getD i 0)
theorem NoOwn.step {w w' : World} {base : Nat} {v : Value} {L : List Int} (h : NoOwn w base v L) (hB : Below w.heap.size w w') : NoOwn w' base v L := by
  rcases h with h | ⟨g, cap, f, h1, h2, h3, h4, h5⟩
  · exact .inl h
  · exact .inr ⟨g, cap, f, h1, h2, h3, row_step h4 hB, h5⟩
theorem NoOwn.of {w : World} {base : Nat} {v : Value} {L : List Int} (h : w.ownsRow base 2 1 v L.length (L.map (Value.int .i64))) : NoOwn w base v L := by
  rcases h.2 with ⟨h1, h2⟩ | ⟨g, cap, cur, h1, h2, h3, h4, h5, h6, h7⟩
  · exact .inl ⟨h1, List.length_eq_zero_iff.1 h2⟩
  · refine .inr ⟨g, cap, fun i => cur.getD i undef, h1, h2, h4, ⟨cur, h3, by omega, fun i hi => ?_⟩, fun i hi => ?_⟩
    · simp [Array.getD_eq_getD_getElem?, show i < cur.size by omega]
    · have e : (cur.toList.take (L.length * 1))[i]? = (L.map (Value.int .i64))[i]? := by rw [h7]
      rw [List.getElem?_take_of_lt (by omega), List.getElem?_map, List.getElem?_eq_getElem hi] at e
      simp only [Array.getElem?_toList, Option.map_some] at e
      show cur.getD i undef = _
      rw [Array.getD_eq_getD_getElem?, e]
      simp [List.getD_eq_getElem?_getD, hi]
/-- The slice's own parts, and that its numbers lie there. -/
theorem NoOwn.in {w : World} {base : Nat} {v : Value} {L : List Int} (h : NoOwn w base v L) : ∃ ao cap, v = .slice ao L.length cap ∧ NoIn w ao L.length (fun i => L.getD i 0) := by
  rcases h with ⟨h1, h2⟩ | ⟨g, cap, f, h1, h2, h3, h4, h5⟩
  · subst h2
    exact ⟨none, 0, h1, fun i hi => by simp at hi⟩
  · exact ⟨some ⟨g, 0, none⟩, cap, h1, fun i hi => ⟨g, 0, rfl, h4.lt, by rw [Nat.zero_add, h4.cell (by omega), h5 i hi]⟩⟩
/-- No block has turned but one of those that a base leaves free. -/
def OtherB (h : Option Nat) (w w' : World) : Prop :=
  (∀ g, some g ≠ h → g < w.heap.size → w'.heap[g]? = w.heap[g]?) ∧ w.heap.size ≤ w'.heap.size ∧ ∀ w0 : World, (∀ g, h = some g → w0.heap.size ≤ g) → Below w0.heap.size w0 w → Below w0.heap.size w0 w'
theorem OtherB.row {h : Option Nat} {w w' : World} (k : OtherB h w w') {g n : Nat} {T : TypeId} {f : Nat → Value} (hne : some g ≠ h) (r : w.rowIs g T n f) : w'.rowIs g T n f := r.of_block (k.1 g hne r.lt)
theorem OtherB.own {h : Option Nat} {w w' : World} (k : OtherB h w w') {base : Nat} {v : Value} {L : List Int} (r : NoOwn w base v L) (hne : ∀ g, v.ownBlock = some g → some g ≠ h) : NoOwn w' base v L := by
  rcases r with r | ⟨g, cap, f, h1, h2, h3, h4, h5⟩
  · exact .inl r
  · exact .inr ⟨g, cap, f, h1, h2, h3, k.row (hne g (by subst h1; rfl)) h4, h5⟩
theorem OtherB.refl (h : Option Nat) (w : World) : OtherB h w w := ⟨fun _ _ _ => rfl, Nat.le_refl _, fun _ _ H => H⟩
theorem OtherB.set {h : Nat} {w w' : World} (k : OtherB (some h) w w') (i : Nat) (v : Value) : OtherB (some h) w (w'.setCell ⟨h, i, none⟩ v) := by
  refine ⟨fun g hne hg => ?_, by simpa [World.setCell] using k.2.1, fun w0 hb H => (k.2.2 w0 hb H).setCell (by exact hb h rfl) _⟩
  rw [Below.heap_setCell _ _ _ _ (fun e => hne (congrArg some e))]
  exact k.1 g hne hg
theorem OtherB.step {h : Option Nat} {w w' w'' : World} (k : OtherB h w w') (hB : Below w'.heap.size w' w'') : OtherB h w w'' :=
  ⟨fun g hne hg => (hB.block g (Nat.lt_of_lt_of_le hg k.2.1)).trans (k.1 g hne hg), Nat.le_trans k.2.1 hB.size, fun w0 hb H => (k.2.2 w0 hb H).trans (hB.mono (k.2.2 w0 hb H).size)⟩
end Go.Proofs.Ytmjlgmoohpnhfaa

/- The turn of three spots: the walks. -/
namespace Go.Proofs.Ytmjlgmoohpnhfaa
open Go.RowKit
def In6 (x : Int) : Prop := -1000000 ≤ x ∧ x ≤ 1000000
end Go.Proofs.Ytmjlgmoohpnhfaa

/- The sides of a segment on which spots are: the walk of the program's loop. -/
namespace Go.Proofs.Ytmjlgmoohpnhfaa
open Go.RowKit
structure PartI (w wr : World) (g : Nat) (sg sl : List Value) : Prop where
  below : Below w.heap.size w wr
  seg : Blk wr w.heap.size sg
  row : Blk wr g sl
theorem PartI.step {w wr wr' : World} {g : Nat} {sg sl : List Value} (h : PartI w wr g sg sl) (hB : Below wr.heap.size wr wr') : PartI w wr' g sg sl := ⟨h.below.trans (hB.mono h.below.size), h.seg.step hB, h.row.step hB⟩
theorem PartI.alloc {w wr : World} {g : Nat} {sg sl : List Value} (h : PartI w wr g sg sl) (o : Obj) : PartI w (wr.alloc o) g sg sl := h.step ((Below.refl _ _).alloc (Nat.le_refl _) o)
end Go.Proofs.Ytmjlgmoohpnhfaa

/- Whether a segment meets a box: the walk of the model's part that is asked of right ones. -/
namespace Go.Proofs.Ytmjlgmoohpnhfaa
open Go.RowKit
end Go.Proofs.Ytmjlgmoohpnhfaa

/- Whether a segment meets a box: the walks of the program and of the model, and of the law. -/
namespace Go.Proofs.Ytmjlgmoohpnhfaa
open Go.RowKit
theorem in6_of_spot {x y : Int} (h : spotOk x y = true) : In6 x ∧ In6 y := by
  unfold spotOk at h
  simp at h
  exact ⟨⟨by omega, by omega⟩, ⟨by omega, by omega⟩⟩
theorem spots_of_seg {a b c d : Int} (h : segOk a b c d = true) : spotOk a b = true ∧ spotOk c d = true := by
  unfold segOk at h
  simp at h
  exact ⟨h.1.1, h.1.2⟩
end Go.Proofs.Ytmjlgmoohpnhfaa

/- Whether a segment meets a box: the walk of the program. -/
namespace Go.Proofs.Ytmjlgmoohpnhfaa
open Go.RowKit
end Go.Proofs.Ytmjlgmoohpnhfaa

/- Segments that meet a box, by their numbers: both sides. -/
namespace Go.Proofs.Ytmjlgmoohpnhfaa
open Go.RowKit
theorem sgI_zero {n : Nat} {x : Nat → Int} (h : sgI n x = 0) : n ≤ 40 ∧ ∀ i, i < n → segOk (x (i * 4)) (x (i * 4 + 1)) (x (i * 4 + 2)) (x (i * 4 + 3)) = true := by
  unfold sgI at h
  split at h
  · cases h
  · split at h
    · exact ⟨by omega, by assumption⟩
    · cases h
theorem NoOwn.mono {w : World} {b b' : Nat} {v : Value} {L : List Int} (h : NoOwn w b' v L) (hb : b ≤ b') : NoOwn w b v L := by
  rcases h with h | ⟨g, cap, f, h1, h2, h3⟩
  · exact .inl h
  · exact .inr ⟨g, cap, f, h1, by omega, h3⟩
set_option maxRecDepth 100000 in
theorem l7Ok_any (ao : Option Addr) (n cap : Nat) (x : Nat → Int) (w : World) (hS : SegIn w ao n x) : Calls Try.prog 57 #[.slice ao n cap] w (BoolP (decide (sgI n x = 0)) w) := by
  have C := specSegsFault_any ao n cap x w hS
  revert C
  generalize sgI n x = o
  intro C
  clear hS
  go_enter Try.func57, Try.ntmps57
  go_wp2_with fail
  refine C.mono ?_
  rintro e w1 ⟨rfl, hB⟩
  by_cases h : o = 0
  · subst h
    go_wp2
    go_ret
    exact ⟨rfl, hB⟩
  · have hf : (o == 0) = false := by simp; omega
    have HD : Hid (decide (o = 0) = false) := decide_eq_false h
    go_wp2
    go_ret
    exact ⟨by rw [HD.out]; rfl, hB⟩
end Go.Proofs.Ytmjlgmoohpnhfaa

/- The nearest of a row of segments: the model's side. -/
namespace Go.Proofs.Ytmjlgmoohpnhfaa
open Go.RowKit
/-- The square of the distance, of a right segment and a right spot, by its own two numbers of at most eight digits. -/
theorem l4Near2_nums {a b c d x y : Int} (h1 : segOk a b c d = true) (h2 : spotOk x y = true) (w : World) : Calls Try.prog 59 #[Sg a b c d, Sp x y] w (NumsP 8 (nU a b c d x y) (nV a b c d x y) w) := by
  obtain ⟨s1, s2⟩ := spots_of_seg h1
  refine (l4Near2_any a b c d x y (in6_of_spot s1).1 (in6_of_spot s1).2 (in6_of_spot s2).1 (in6_of_spot s2).2 (in6_of_spot h2).1 (in6_of_spot h2).2 w).mono ?_
  rintro e w' ⟨U, V, k, hk, hr, s1, o1, n1, c1, d1, s2, o2, n2, c2, d2, rfl, N1, N2, hB⟩
  obtain ⟨t1, t2, _, _⟩ := near_nums h1 h2
  obtain ⟨rfl, rfl⟩ := near_det h1 h2 hr
  exact ⟨s1, o1, n1, c1, d1, s2, o2, n2, c2, d2, rfl, num_eight N1 t1, num_eight N2 t2, hB⟩
/-- The two numbers of the segment of number i. -/
def uAt (x : Nat → Int) (p q : Int) (i : Nat) : Int := nU (x (i * 4)) (x (i * 4 + 1)) (x (i * 4 + 2)) (x (i * 4 + 3)) p q
def vAt (x : Nat → Int) (p q : Int) (i : Nat) : Int := nV (x (i * 4)) (x (i * 4 + 1)) (x (i * 4 + 2)) (x (i * 4 + 3)) p q
/-- Whether the segment of number i is nearer than that of number j. -/
def nearer (x : Nat → Int) (p q : Int) (i j : Nat) : Bool := decide (cmpI (uAt x p q i * vAt x p q j) (uAt x p q j * vAt x p q i) < 0)
/-- The nearest of those up to number c, of several the first. -/
def nsI (x : Nat → Int) (p q : Int) : Nat → Nat
  | 0 => 0
  | c + 1 => if nearer x p q (c + 1) (nsI x p q c) then c + 1 else nsI x p q c
theorem nsI_le (x : Nat → Int) (p q : Int) (c : Nat) : nsI x p q c ≤ c := by
  induction c with
  | zero => exact Nat.le_refl _
  | succ c ih => unfold nsI; split <;> omega
theorem nsI_on {x : Nat → Int} {p q : Int} {c : Nat} (h : nearer x p q (c + 1) (nsI x p q c) = true) : nsI x p q (c + 1) = c + 1 := by
  conv => lhs; unfold nsI
  rw [if_pos h]
theorem nsI_off {x : Nat → Int} {p q : Int} {c : Nat} (h : nearer x p q (c + 1) (nsI x p q c) = false) : nsI x p q (c + 1) = nsI x p q c := by
  conv => lhs; unfold nsI
  rw [if_neg (by simp [h])]
def nsOk (n : Nat) (x : Nat → Int) (p q : Int) : Bool := decide (sgI n x = 0) && spotOk p q && decide (0 < n)
/-- What is told. -/
def nsV (n : Nat) (x : Nat → Int) (p q : Int) : Value :=
  if nsOk n x p q then .tuple #[.int .i64 (nsI x p q (n - 1) : Nat), Rt (ww3 (uAt x p q (nsI x p q (n - 1)))) (ww2 (uAt x p q (nsI x p q (n - 1)))) (ww1 (uAt x p q (nsI x p q (n - 1)))) (ww0 (uAt x p q (nsI x p q (n - 1)))) (ww3 (vAt x p q (nsI x p q (n - 1)))) (ww2 (vAt x p q (nsI x p q (n - 1)))) (ww1 (vAt x p q (nsI x p q (n - 1)))) (ww0 (vAt x p q (nsI x p q (n - 1)))), .bool true]
  else .tuple #[.int .i64 0, Rt 0 0 0 0 0 0 0 0, .bool false]
theorem ns_start (x y : Int) (w : World) (T T' : TypeId) (L : List Value) : ArgsB w ((w.alloc (.cells #[.int .i64 x, .int .i64 y] T)).alloc (.cells L.toArray T')) [[.int .i64 x, .int .i64 y], L] := by
  refine ⟨((Below.refl _ _).alloc (Nat.le_refl _) _).alloc (by simp) _, fun j vs hj => ?_⟩
  match j, hj with
  | 0, hj => cases hj; exact (Blk.new w [.int .i64 x, .int .i64 y] T rfl).alloc _
  | 1, hj => cases hj; exact Blk.new (w.alloc (.cells #[.int .i64 x, .int .i64 y] T)) L T' (by simp)
  | j + 2, hj => simp at hj
/-- A fraction of two numbers that lies in a block of its own. -/
def FarIs (wr : World) (F : Nat) (X Y : Int) : Prop := ∃ (s1 : Bool) (o1 : Option Addr) (n1 c1 : Nat) (d1 : List Int) (s2 : Bool) (o2 : Option Addr) (n2 c2 : Nat) (d2 : List Int), Blk wr F [.bool s1, .slice o1 n1 c1, .bool s2, .slice o2 n2 c2] ∧ IsNum wr s1 o1 n1 c1 d1 X 8 ∧ IsNum wr s2 o2 n2 c2 d2 Y 8
theorem FarIs.step {wr w' : World} {F : Nat} {X Y : Int} (h : FarIs wr F X Y) (hB : Below wr.heap.size wr w') : FarIs w' F X Y := by
  obtain ⟨s1, o1, n1, c1, d1, s2, o2, n2, c2, d2, G, N1, N2⟩ := h
  exact ⟨s1, o1, n1, c1, d1, s2, o2, n2, c2, d2, G.step hB, N1.below hB, N2.below hB⟩
theorem far_put {w3 : World} {R : Nat} {t0 t1 : Bool} {a0 a1 : Option Addr} {m0 m1 k0 k1 : Nat} {s1 s2 : Bool} {o1 o2 : Option Addr} {n1 c1 n2 c2 : Nat} {d1 d2 : List Int} {X Y : Int} (G : Blk w3 R [.bool t0, .slice a0 m0 k0, .bool t1, .slice a1 m1 k1]) (h : IsNum w3 s1 o1 n1 c1 d1 X 8) (h' : IsNum w3 s2 o2 n2 c2 d2 Y 8) : FarIs ((((w3.setCell ⟨R, 0, none⟩ (.bool s1)).setCell ⟨R, 1, none⟩ (.slice o1 n1 c1)).setCell ⟨R, 2, none⟩ (.bool s2)).setCell ⟨R, 3, none⟩ (.slice o2 n2 c2)) R X Y := by
  have G1 := G.setI 0 (by simp) (.bool s1)
  have G2 := G1.setI 1 (by simp) (.slice o1 n1 c1)
  have G3 := G2.setI 2 (by simp) (.bool s2)
  refine ⟨s1, o1, n1, c1, d1, s2, o2, n2, c2, d2, G3.setI 3 (by simp) _, ?_, ?_⟩
  · exact (((h.set (G.c 0 rfl) (by simp) _).set (G1.c 1 rfl) (by simp) _).set (G2.c 2 rfl) (by simp) _).set (G3.c 3 rfl) (by simp) _
  · exact (((h'.set (G.c 0 rfl) (by simp) _).set (G1.c 1 rfl) (by simp) _).set (G2.c 2 rfl) (by simp) _).set (G3.c 3 rfl) (by simp) _
/-- Another fraction stays as it was where one is laid down. -/
theorem FarIs.put {w3 : World} {F R : Nat} {t0 t1 : Bool} {a0 a1 : Option Addr} {m0 m1 k0 k1 : Nat} {v0 v1 v2 v3 : Value} {X Y : Int} (h : FarIs w3 F X Y) (hne : F ≠ R) (G : Blk w3 R [.bool t0, .slice a0 m0 k0, .bool t1, .slice a1 m1 k1]) : FarIs ((((w3.setCell ⟨R, 0, none⟩ v0).setCell ⟨R, 1, none⟩ v1).setCell ⟨R, 2, none⟩ v2).setCell ⟨R, 3, none⟩ v3) F X Y := by
  obtain ⟨s1, o1, n1, c1, d1, s2, o2, n2, c2, d2, B, N1, N2⟩ := h
  have G1 := G.setI 0 (by simp) v0
  have G2 := G1.setI 1 (by simp) v1
  have G3 := G2.setI 2 (by simp) v2
  refine ⟨s1, o1, n1, c1, d1, s2, o2, n2, c2, d2, (((B.setO hne _).setO hne _).setO hne _).setO hne _, ?_, ?_⟩
  · exact (((N1.set (G.c 0 rfl) (by simp) _).set (G1.c 1 rfl) (by simp) _).set (G2.c 2 rfl) (by simp) _).set (G3.c 3 rfl) (by simp) _
  · exact (((N2.set (G.c 0 rfl) (by simp) _).set (G1.c 1 rfl) (by simp) _).set (G2.c 2 rfl) (by simp) _).set (G3.c 3 rfl) (by simp) _
theorem far_new {w3 : World} {s1 s2 : Bool} {o1 o2 : Option Addr} {n1 c1 n2 c2 : Nat} {d1 d2 : List Int} {X Y : Int} {T : TypeId} (h : IsNum w3 s1 o1 n1 c1 d1 X 8) (h' : IsNum w3 s2 o2 n2 c2 d2 Y 8) : FarIs (w3.alloc (.cells #[.bool s1, .slice o1 n1 c1, .bool s2, .slice o2 n2 c2] T)) w3.heap.size X Y :=
  ⟨s1, o1, n1, c1, d1, s2, o2, n2, c2, d2, Blk.new w3 [.bool s1, .slice o1 n1 c1, .bool s2, .slice o2 n2 c2] T rfl, h.alloc _, h'.alloc _⟩
/-- The arguments stay as they were where a fraction is laid down behind them. -/
theorem args_far {w W W' : World} {vss : List (List Value)} (h : ArgsB w W vss) (hB : Below (w.heap.size + vss.length) W W') : ArgsB w W' vss :=
  ⟨h.1.trans (hB.mono (by omega)), fun j vs hj => (h.2 j vs hj).below hB (by have := (List.getElem?_eq_some_iff.1 hj).1; omega)⟩
theorem nsI_on' {x : Nat → Int} {p q : Int} {k : Nat} (hk : 1 ≤ k) (h : nearer x p q k (nsI x p q (k - 1)) = true) : nsI x p q k = k := by
  obtain ⟨c, rfl⟩ : ∃ c, k = c + 1 := ⟨k - 1, by omega⟩
  exact nsI_on h
theorem nsI_off' {x : Nat → Int} {p q : Int} {k : Nat} (hk : 1 ≤ k) (h : nearer x p q k (nsI x p q (k - 1)) = false) : nsI x p q k = nsI x p q (k - 1) := by
  obtain ⟨c, rfl⟩ : ∃ c, k = c + 1 := ⟨k - 1, by omega⟩
  exact nsI_off h
end Go.Proofs.Ytmjlgmoohpnhfaa

/- What keepNearest hands out: a function over four blocks of its own. -/
namespace Go.Proofs.Ytmjlgmoohpnhfaa
open Go.RowKit
set_option maxRecDepth 100000 in
set_option maxHeartbeats 2000000 in
theorem keepNearest_any (p q : Int) (w : World) : Calls Try.prog 65 #[Sp p q] w (fun e w' => e = .returned (.func (.func 112) #[] #[.pointer (some ⟨w.heap.size, 0, none⟩), .pointer (some ⟨w.heap.size + 1, 0, none⟩), .pointer (some ⟨w.heap.size + 1 + 1 + 1, 0, none⟩), .pointer (some ⟨w.heap.size + 1 + 1, 0, none⟩)]) ∧ Blk w' w.heap.size [.int .i64 p, .int .i64 q] ∧ Blk w' (w.heap.size + 1) [.int .i64 0] ∧ Blk w' (w.heap.size + 1 + 1) [.int .i64 0] ∧ Blk w' (w.heap.size + 1 + 1 + 1) [.int .u64 0, .int .u64 0, .int .u64 0, .int .u64 0, .int .u64 0, .int .u64 0, .int .u64 0, .int .u64 0] ∧ Below w.heap.size w w') := by
  have HB : Below w.heap.size w ((((w.alloc (.cells #[.int .i64 p, .int .i64 q] 55)).alloc (.cells #[.int .i64 0] 2)).alloc (.cells #[.int .i64 0] 2)).alloc (.cells #[.int .u64 0, .int .u64 0, .int .u64 0, .int .u64 0, .int .u64 0, .int .u64 0, .int .u64 0, .int .u64 0] 50)) := ((((Below.refl _ w).alloc (Nat.le_refl _) _).alloc (by simp) _).alloc (by simp; omega) _).alloc (by simp; omega) _
  have B0 := (((Blk.new w [.int .i64 p, .int .i64 q] 55 rfl).alloc (.cells #[.int .i64 0] 2)).alloc (.cells #[.int .i64 0] 2)).alloc (.cells #[.int .u64 0, .int .u64 0, .int .u64 0, .int .u64 0, .int .u64 0, .int .u64 0, .int .u64 0, .int .u64 0] 50)
  have B1 := ((Blk.new (w.alloc (.cells #[.int .i64 p, .int .i64 q] 55)) [.int .i64 0] 2 (g := w.heap.size + 1) (by simp)).alloc (.cells #[.int .i64 0] 2)).alloc (.cells #[.int .u64 0, .int .u64 0, .int .u64 0, .int .u64 0, .int .u64 0, .int .u64 0, .int .u64 0, .int .u64 0] 50)
  have B2 := (Blk.new ((w.alloc (.cells #[.int .i64 p, .int .i64 q] 55)).alloc (.cells #[.int .i64 0] 2)) [.int .i64 0] 2 (g := w.heap.size + 1 + 1) (by simp)).alloc (.cells #[.int .u64 0, .int .u64 0, .int .u64 0, .int .u64 0, .int .u64 0, .int .u64 0, .int .u64 0, .int .u64 0] 50)
  have B3 := Blk.new (((w.alloc (.cells #[.int .i64 p, .int .i64 q] 55)).alloc (.cells #[.int .i64 0] 2)).alloc (.cells #[.int .i64 0] 2)) [.int .u64 0, .int .u64 0, .int .u64 0, .int .u64 0, .int .u64 0, .int .u64 0, .int .u64 0, .int .u64 0] 50 (g := w.heap.size + 1 + 1 + 1) (by simp)
  go_enter Try.func65, Try.ntmps65
  go_wp2
  go_ret
  exact ⟨rfl, B0, B1, B2, B3, HB⟩
end Go.Proofs.Ytmjlgmoohpnhfaa

/- A region that draws its order, by a condition that every operation keeps, whichever comes up: no order is walked. -/
namespace Go.Proofs.Ytmjlgmoohpnhfaa
variable {P : Program} {ops : Array Oper} {Q : Exit → Act → World → Prop} {md : Region.Mode}
def open_ (l : Array Bool) : Nat := l.toList.countP (fun b => !b)
theorem open_set {l : Array Bool} {i : Nat} (h : l.getD i true = false) : open_ (l.setIfInBounds i true) + 1 = open_ l := by
  obtain ⟨xs⟩ := l
  have hi : i < xs.length := by
    rcases Nat.lt_or_ge i xs.length with h' | h'
    · exact h'
    · simp [Array.getD, Nat.not_lt.2 h'] at h
  have hv : xs[i] = false := by simpa [Array.getD, hi] using h
  have hp : 0 < xs.countP (fun b => !b) := List.countP_pos_iff.2 ⟨xs[i], List.getElem_mem hi, by simp [hv]⟩
  simp only [open_, List.setIfInBounds_toArray, List.countP_set hi, hv]
  simp
  omega
theorem wpAny_inv (J : Array Bool → Act → World → Prop) (hs : ∀ l a w i o, J l a w → l.getD i true = false → ops[i]? = some o → (∀ e ∈ o.after, Region.binds md e = true → l.getD e.on false = true) → wpOp P ops Q i (J (l.setIfInBounds i true)) a w)
    (hd : ∀ l a w, J l a w → Region.ready md ops l = [] → Q .normal a w) : ∀ (fuel : Nat) (l : Array Bool) (a : Act) (w : World), open_ l ≤ fuel → J l a w → wpAny P md ops Q fuel l a w := by
  intro fuel
  induction fuel with
  | zero =>
    intro l a w hf hJ
    have hr : Region.ready md ops l = [] := by
      rw [List.eq_nil_iff_forall_not_mem]
      intro i hi
      have := open_set (mem_ready.1 hi).1
      omega
    exact ⟨hr, hd l a w hJ hr⟩
  | succ fuel ih =>
    intro l a w hf hJ
    refine ⟨fun hr => hd l a w hJ hr, fun i hi => ?_⟩
    obtain ⟨h0, o, ho, hall⟩ := mem_ready.1 hi
    exact wpOp_mono (fun a' w' h' => ih _ a' w' (by have := open_set h0; omega) h') (hs l a w i o hJ h0 ho hall)
theorem wp_region_inv {id : Nat} {a : Act} {w : World} (hm : P.follows .mixedOrders = true) (J : Array Bool → Act → World → Prop)
    (h0 : J (Array.replicate ops.size false) a { w with drawn := w.drawn + 1 })
    (hs : ∀ l a w i o, J l a w → l.getD i true = false → ops[i]? = some o → (∀ e ∈ o.after, Region.binds .any e = true → l.getD e.on false = true) → wpOp P ops Q i (J (l.setIfInBounds i true)) a w)
    (hd : ∀ l a w, J l a w → Region.ready .any ops l = [] → Q .normal a w) : (Code.region id ops true).wp P Q a w :=
  wp_region_any hm (wpAny_inv J hs hd _ _ _ _ (by
    unfold open_
    refine Nat.le_trans List.countP_le_length ?_
    simp) h0)
/-- The operations of a list, each of which waits for none but those ahead of it. -/
def waits (md : Region.Mode) (ops : Array Oper) : List Nat → List Nat → Bool
  | _, [] => true
  | acc, i :: r => ((ops[i]?).map (fun o => o.after.all (fun e => !Region.binds md e || acc.contains e.on))).getD false && waits md ops (i :: acc) r
/-- Where none is ready, all of such a list have come up. -/
theorem listed_of {l : Array Bool} (hr : Region.ready md ops l = []) : ∀ (r acc : List Nat), (∀ k ∈ acc, l.getD k false = true) → waits md ops acc r = true → (∀ k ∈ r, k < l.size) → ∀ k ∈ r, l.getD k false = true
  | [], _, _, _, _ => fun k hk => by simp at hk
  | i :: r, acc, ha, hw, hz => by
    simp only [waits, Bool.and_eq_true] at hw
    obtain ⟨hw1, hw2⟩ := hw
    have hi : l.getD i false = true := by
      cases ho : ops[i]? with
      | none => rw [ho] at hw1; simp at hw1
      | some o =>
        rw [ho] at hw1
        have hall : ∀ e ∈ o.after, Region.binds md e = true → l.getD e.on false = true := fun e he hb => by
          have h2 : o.after.all (fun e => !Region.binds md e || acc.contains e.on) = true := by simpa using hw1
          rw [Array.all_eq_true'] at h2
          have h3 := h2 e he
          rw [hb] at h3
          exact ha _ (by simpa using h3)
        have hz' := hz i (by simp)
        by_cases hc : l.getD i true = false
        · have : i ∈ Region.ready md ops l := mem_ready.2 ⟨hc, o, ho, hall⟩
          rw [hr] at this
          simp at this
        · simpa [Array.getD, hz'] using hc
    intro k hk
    rcases List.mem_cons.1 hk with rfl | hk
    · exact hi
    · exact listed_of hr r (i :: acc) (fun k hk => by
        rcases List.mem_cons.1 hk with rfl | hk
        · exact hi
        · exact ha k hk) hw2 (fun k hk => hz k (by simp [hk])) k hk
/-- One operation that is not guarded: what it does when it is carried out. -/
theorem wpOp_of {i : Nat} {o : Oper} {a : Act} {w : World} {K : Act → World → Prop} (ho : ops[i]? = some o) (hg : o.guard = none) (h : o.wp P a w K Q) : wpOp P ops Q i K a w := by
  unfold wpOp
  simp only [ho]
  have hw : Region.wanted o (yielded ops a.tmps) = true := by unfold Region.wanted; rw [hg]
  rw [if_pos hw]
  exact .inl h
/-- A frame that differs from another one at the told slots alone is that one with these slots put. -/
theorem tmps_fold : ∀ (D : List Nat) (t s : Array Value), t.size = s.size → (∀ d, d ∉ D → t[d]? = s[d]?) → t = D.foldl (fun u d => u.setIfInBounds d (t.getD d undef)) s
  | [], t, s, _, h => Array.ext_getElem? (fun d => h d (by simp))
  | d :: D, t, s, hz, h => by
    rw [List.foldl_cons]
    refine tmps_fold D t _ (by simpa using hz) (fun e he => ?_)
    by_cases hed : e = d
    · subst hed
      rcases Nat.lt_or_ge e t.size with h' | h'
      · simp [Array.getD, h', ← hz]
      · simp [← hz, h']
    · rw [Array.getElem?_setIfInBounds_ne (fun hh => hed hh.symm)]
      exact h e (by simp [hed, he])
theorem put_getD_ne {a : Act} {d e : Nat} {v : Value} (h : d ≠ e) : (a.put (some d) v).tmps.getD e undef = a.tmps.getD e undef := by
  simp [Act.put, Array.getD_eq_getD_getElem?, Array.getElem?_setIfInBounds_ne h]
theorem put_getD_same {a : Act} {d : Nat} {v : Value} (h : d < a.tmps.size) : (a.put (some d) v).tmps.getD d undef = v := by
  simp [Act.put, Array.getD_eq_getD_getElem?, h]
end Go.Proofs.Ytmjlgmoohpnhfaa

/- Operations that are guarded, in a region that is taken by a condition. -/
namespace Go.Proofs.Ytmjlgmoohpnhfaa
variable {P : Program} {ops : Array Oper} {Q : Exit → Act → World → Prop}
end Go.Proofs.Ytmjlgmoohpnhfaa
