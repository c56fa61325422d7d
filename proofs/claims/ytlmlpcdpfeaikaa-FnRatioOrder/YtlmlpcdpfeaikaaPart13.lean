/- Part 13 of the walks that the proof leans on. -/
import Derived.Test.YtlmlpcdpfeaikaaPart12
import Derived.Test.YtlmlpcdpfeaikaaPart11
/- Fractions in their order, and their floors: the law of drawn ones. -/
namespace Go.Proofs.Ytlmlpcdpfeaikaa
open Go.RowKit
theorem bigd_any (ao : Option Addr) (n cap : Nat) (w : World) (z : Bool) (hz : decide (1048576 < n) = z) : Calls Try.prog 5 #[.slice ao n cap] w (BoolP z w) := by
  subst hz
  go_enter Try.func5, Try.ntmps5
  go_wp2
  go_ret
  exact ⟨by simp; try omega, Below.refl _ _⟩
set_option maxRecDepth 100000 in
set_option maxHeartbeats 8000000 in
theorem lawRatioOrder_any (ao : Option Addr) (n cap : Nat) (cs : List Int) (w : World) (h : n ≤ 1048576 → Code w ao n cs) : Calls Try.prog 4 #[.slice ao n cap] w (BoolP true w) := by
  by_cases hn : 1048576 < n
  · go_enter Try.func4, Try.ntmps4
    go_wp2_with fail
    refine (bigd_any ao n cap _ true (by simpa using hn)).mono ?_
    rintro e w1 ⟨rfl, hB⟩
    clear h
    go_wp2
    go_ret
    exact ⟨rfl, hB⟩
  · have hc := h (by omega)
    clear h
    go_enter Try.func4, Try.ntmps4
    go_wp2_with fail
    refine (bigd_any ao n cap _ false (by simpa using hn)).mono ?_
    rintro e w1 ⟨rfl, hB⟩
    replace hc := hc.below hB
    have HB := hB
    clear hB
    go_wp2_with fail
    refine (drawRatioCmp_any ao n cap cs _ hc).mono ?_
    rintro e w2 ⟨x, y, u, v, rfl, tx, ty, tu, tv, hB⟩
    replace HB := HB.trans (hB.mono HB.size)
    clear hB hc
    have Xp : Blk ((w2.alloc (.cells #[.int .u64 (ww3 x), .int .u64 (ww2 x), .int .u64 (ww1 x), .int .u64 (ww0 x), .int .u64 (ww3 y), .int .u64 (ww2 y), .int .u64 (ww1 y), .int .u64 (ww0 y)] 28)).alloc (.cells #[.int .u64 (ww3 u), .int .u64 (ww2 u), .int .u64 (ww1 u), .int .u64 (ww0 u), .int .u64 (ww3 v), .int .u64 (ww2 v), .int .u64 (ww1 v), .int .u64 (ww0 v)] 28)) w2.heap.size [.int .u64 (ww3 x), .int .u64 (ww2 x), .int .u64 (ww1 x), .int .u64 (ww0 x), .int .u64 (ww3 y), .int .u64 (ww2 y), .int .u64 (ww1 y), .int .u64 (ww0 y)] := (Blk.new w2 _ _ rfl).alloc _
    have Xq : Blk ((w2.alloc (.cells #[.int .u64 (ww3 x), .int .u64 (ww2 x), .int .u64 (ww1 x), .int .u64 (ww0 x), .int .u64 (ww3 y), .int .u64 (ww2 y), .int .u64 (ww1 y), .int .u64 (ww0 y)] 28)).alloc (.cells #[.int .u64 (ww3 u), .int .u64 (ww2 u), .int .u64 (ww1 u), .int .u64 (ww0 u), .int .u64 (ww3 v), .int .u64 (ww2 v), .int .u64 (ww1 v), .int .u64 (ww0 v)] 28)) (w2.heap.size + 1) [.int .u64 (ww3 u), .int .u64 (ww2 u), .int .u64 (ww1 u), .int .u64 (ww0 u), .int .u64 (ww3 v), .int .u64 (ww2 v), .int .u64 (ww1 v), .int .u64 (ww0 v)] := Blk.new (w2.alloc (.cells #[.int .u64 (ww3 x), .int .u64 (ww2 x), .int .u64 (ww1 x), .int .u64 (ww0 x), .int .u64 (ww3 y), .int .u64 (ww2 y), .int .u64 (ww1 y), .int .u64 (ww0 y)] 28)) _ _ (by simp)
    replace HB := (HB.alloc HB.size (.cells #[.int .u64 (ww3 x), .int .u64 (ww2 x), .int .u64 (ww1 x), .int .u64 (ww0 x), .int .u64 (ww3 y), .int .u64 (ww2 y), .int .u64 (ww1 y), .int .u64 (ww0 y)] 28)).alloc (HB.alloc HB.size (.cells #[.int .u64 (ww3 x), .int .u64 (ww2 x), .int .u64 (ww1 x), .int .u64 (ww0 x), .int .u64 (ww3 y), .int .u64 (ww2 y), .int .u64 (ww1 y), .int .u64 (ww0 y)] 28)).size (.cells #[.int .u64 (ww3 u), .int .u64 (ww2 u), .int .u64 (ww1 u), .int .u64 (ww0 u), .int .u64 (ww3 v), .int .u64 (ww2 v), .int .u64 (ww1 v), .int .u64 (ww0 v)] 28)
    have I0 := cmpZ_det x y u v tx ty tu tv
    have I1 := cmpS_det x y u v tx ty tu tv
    have I2 := cmpZ_det u v x y tu tv tx ty
    rw [cmp_flip x y u v] at I2
    have hin := cmp_in x y u v
    have HZ : Hid ((ratCmp x y u v).2 = true → ((ratCmp x y u v).1 = 0 ↔ x = u ∧ y = v)) := fun h => cmp_zero h
    have HR : Hid ((ratCmp x y u v).2 = true → rightB x y = true ∧ rightB u v = true ∧ (ratCmp x y u v).1 = cmpI (x * v) (u * y)) := fun h => cmp_right h
    generalize (ratCmp x y u v).1 = o at *
    generalize (ratCmp x y u v).2 = ok at *
    have b0 : -1 ≤ o := by omega
    have b1 : o ≤ 1 := by omega
    have hoo : (o == o) = true := by simp
    have hkk : (ok == ok) = true := by simp
    have hww : wrap64 (- -o) = o := by rw [Int.neg_neg]; unfold wrap64; omega
    have hnn : - -o = o := Int.neg_neg o
    have EQ := eqRZ x y u v tx ty tu tv
    clear hin
    have xpr0 := Xp.c 0 rfl; have xpr1 := Xp.c 1 rfl; have xpr2 := Xp.c 2 rfl; have xpr3 := Xp.c 3 rfl; have xpr4 := Xp.c 4 rfl; have xpr5 := Xp.c 5 rfl; have xpr6 := Xp.c 6 rfl; have xpr7 := Xp.c 7 rfl; have xqr0 := Xq.c 0 rfl; have xqr1 := Xq.c 1 rfl; have xqr2 := Xq.c 2 rfl; have xqr3 := Xq.c 3 rfl; have xqr4 := Xq.c 4 rfl; have xqr5 := Xq.c 5 rfl; have xqr6 := Xq.c 6 rfl; have xqr7 := Xq.c 7 rfl
    go_wp2_with fail
    refine (I0 _).mono ?_
    rintro e v1 ⟨rfl, hB⟩
    replace Xp := Xp.step hB
    replace Xq := Xq.step hB
    replace HB := HB.trans (hB.mono HB.size)
    clear hB xpr0 xpr1 xpr2 xpr3 xpr4 xpr5 xpr6 xpr7 xqr0 xqr1 xqr2 xqr3 xqr4 xqr5 xqr6 xqr7
    have xpr0 := Xp.c 0 rfl; have xpr1 := Xp.c 1 rfl; have xpr2 := Xp.c 2 rfl; have xpr3 := Xp.c 3 rfl; have xpr4 := Xp.c 4 rfl; have xpr5 := Xp.c 5 rfl; have xpr6 := Xp.c 6 rfl; have xpr7 := Xp.c 7 rfl; have xqr0 := Xq.c 0 rfl; have xqr1 := Xq.c 1 rfl; have xqr2 := Xq.c 2 rfl; have xqr3 := Xq.c 3 rfl; have xqr4 := Xq.c 4 rfl; have xqr5 := Xq.c 5 rfl; have xqr6 := Xq.c 6 rfl; have xqr7 := Xq.c 7 rfl
    go_wp2_with fail
    refine (I1 _).mono ?_
    rintro e v2 ⟨rfl, hB⟩
    replace Xp := Xp.step hB
    replace Xq := Xq.step hB
    replace HB := HB.trans (hB.mono HB.size)
    clear hB xpr0 xpr1 xpr2 xpr3 xpr4 xpr5 xpr6 xpr7 xqr0 xqr1 xqr2 xqr3 xqr4 xqr5 xqr6 xqr7
    have xpr0 := Xp.c 0 rfl; have xpr1 := Xp.c 1 rfl; have xpr2 := Xp.c 2 rfl; have xpr3 := Xp.c 3 rfl; have xpr4 := Xp.c 4 rfl; have xpr5 := Xp.c 5 rfl; have xpr6 := Xp.c 6 rfl; have xpr7 := Xp.c 7 rfl; have xqr0 := Xq.c 0 rfl; have xqr1 := Xq.c 1 rfl; have xqr2 := Xq.c 2 rfl; have xqr3 := Xq.c 3 rfl; have xqr4 := Xq.c 4 rfl; have xqr5 := Xq.c 5 rfl; have xqr6 := Xq.c 6 rfl; have xqr7 := Xq.c 7 rfl
    go_wp2_with fail
    refine (I2 _).mono ?_
    rintro e v3 ⟨rfl, hB⟩
    replace Xp := Xp.step hB
    replace Xq := Xq.step hB
    replace HB := HB.trans (hB.mono HB.size)
    clear hB xpr0 xpr1 xpr2 xpr3 xpr4 xpr5 xpr6 xpr7 xqr0 xqr1 xqr2 xqr3 xqr4 xqr5 xqr6 xqr7
    clear I0 I1 I2
    cases ok
    · clear HZ HR EQ
      have xpr0 := Xp.c 0 rfl; have xpr1 := Xp.c 1 rfl; have xpr2 := Xp.c 2 rfl; have xpr3 := Xp.c 3 rfl; have xpr4 := Xp.c 4 rfl; have xpr5 := Xp.c 5 rfl; have xpr6 := Xp.c 6 rfl; have xpr7 := Xp.c 7 rfl; have xqr0 := Xq.c 0 rfl; have xqr1 := Xq.c 1 rfl; have xqr2 := Xq.c 2 rfl; have xqr3 := Xq.c 3 rfl; have xqr4 := Xq.c 4 rfl; have xqr5 := Xq.c 5 rfl; have xqr6 := Xq.c 6 rfl; have xqr7 := Xq.c 7 rfl
      clear Xp Xq
      go_wp2
      go_ret
      exact ⟨rfl, HB⟩
    · skip
      obtain ⟨r1, r2, ho⟩ := HR.out rfl
      have e0 : (decide (x = u) && decide (y = v)) = (o == 0) := by
        rw [Bool.eq_iff_iff]
        simp only [Bool.and_eq_true, decide_eq_true_eq, beq_iff_eq]
        exact (HZ.out rfl).symm
      rw [e0] at EQ
      have q1' : ((o == 0) != (o == 0)) = false := by simp
      clear e0 HZ HR
      obtain ⟨hF, hC, hD⟩ := floor_facts r1 tx
      have OF := fun w => implOf_det 1 w (by decide) (by decide)
      have FL := floorZ_det x y tx ty
      rw [hF] at FL
      have tf := floor_told r1 tx
      have C1 := cmpZ_det (x / y) 1 x y tf (by decide) tx ty
      have PL := plusZ_det (x / y) 1 tf (by decide)
      obtain ⟨m, th, hm, tm, hmz⟩ := tell_ex (x / y + 1)
      rw [hm] at PL
      have C2 := cmpZ_det m 1 x y tm (by decide) tx ty
      have hD2 : th = true → (ratCmp m 1 x y).1 = 1 := fun h => by rw [hmz h]; exact hD
      obtain ⟨c0, c1⟩ : -1 ≤ (ratCmp (x / y) 1 x y).1 ∧ (ratCmp (x / y) 1 x y).1 ≤ 0 := by have := cmp_in (x / y) 1 x y; omega
      clear hF hm hmz hD hC
      generalize (ratCmp (x / y) 1 x y).1 = c at *
      generalize (ratCmp (x / y) 1 x y).2 = kc at *
      generalize (ratCmp m 1 x y).1 = d at *
      generalize (ratCmp m 1 x y).2 = kd at *
      generalize x / y = f at *
      have NG := negZ_det u tu
      obtain ⟨m2, ok2, hm2, tm2, hmz2⟩ := tell_ex (-u)
      rw [hm2] at NG
      have AD := addZ_det x y m2 v tx ty tm2 tv
      obtain ⟨N, D, ok3, hA, tN, tD, hsg⟩ : ∃ N D ok3, rat2V x y m2 v (x * v + m2 * y) (y * v) = .tuple #[RZ N D, .bool ok3] ∧ told N = true ∧ told D = true ∧ (ok2 = true → ok3 = true → cmpI N 0 = o) := by
        cases ok2
        · obtain ⟨N, D, t, h, a, b, -⟩ := rat2V_rz x y m2 v (x * v + m2 * y) (y * v)
          exact ⟨N, D, t, h, a, b, fun h => by cases h⟩
        · obtain rfl := hmz2 rfl
          obtain ⟨N, D, t, h, a, b, k⟩ := diff_facts x y u v
          exact ⟨N, D, t, h, a, b, fun _ h3 => by rw [k h3, ho]⟩
      rw [hA] at AD
      have SG := sign_det N tN
      clear hA hm2 hmz2 ho r1 r2
      have xpr0 := Xp.c 0 rfl; have xpr1 := Xp.c 1 rfl; have xpr2 := Xp.c 2 rfl; have xpr3 := Xp.c 3 rfl; have xpr4 := Xp.c 4 rfl; have xpr5 := Xp.c 5 rfl; have xpr6 := Xp.c 6 rfl; have xpr7 := Xp.c 7 rfl; have xqr0 := Xq.c 0 rfl; have xqr1 := Xq.c 1 rfl; have xqr2 := Xq.c 2 rfl; have xqr3 := Xq.c 3 rfl; have xqr4 := Xq.c 4 rfl; have xqr5 := Xq.c 5 rfl; have xqr6 := Xq.c 6 rfl; have xqr7 := Xq.c 7 rfl
      go_wp2_with fail
      refine (OF _).mono ?_
      rintro e v4 ⟨rfl, hB⟩
      replace Xp := (Xp.step hB).alloc (.cells #[.int .u64 (ww3 1), .int .u64 (ww2 1), .int .u64 (ww1 1), .int .u64 (ww0 1)] 26)
      replace Xq := (Xq.step hB).alloc (.cells #[.int .u64 (ww3 1), .int .u64 (ww2 1), .int .u64 (ww1 1), .int .u64 (ww0 1)] 26)
      have Xe := Blk.new v4 [.int .u64 (ww3 1), .int .u64 (ww2 1), .int .u64 (ww1 1), .int .u64 (ww0 1)] 26 rfl
      replace HB := (HB.trans (hB.mono HB.size)).alloc (HB.trans (hB.mono HB.size)).size (.cells #[.int .u64 (ww3 1), .int .u64 (ww2 1), .int .u64 (ww1 1), .int .u64 (ww0 1)] 26)
      clear hB xpr0 xpr1 xpr2 xpr3 xpr4 xpr5 xpr6 xpr7 xqr0 xqr1 xqr2 xqr3 xqr4 xqr5 xqr6 xqr7
      have xpr0 := Xp.c 0 rfl; have xpr1 := Xp.c 1 rfl; have xpr2 := Xp.c 2 rfl; have xpr3 := Xp.c 3 rfl; have xpr4 := Xp.c 4 rfl; have xpr5 := Xp.c 5 rfl; have xpr6 := Xp.c 6 rfl; have xpr7 := Xp.c 7 rfl; have xqr0 := Xq.c 0 rfl; have xqr1 := Xq.c 1 rfl; have xqr2 := Xq.c 2 rfl; have xqr3 := Xq.c 3 rfl; have xqr4 := Xq.c 4 rfl; have xqr5 := Xq.c 5 rfl; have xqr6 := Xq.c 6 rfl; have xqr7 := Xq.c 7 rfl; have xer0 := Xe.c 0 rfl; have xer1 := Xe.c 1 rfl; have xer2 := Xe.c 2 rfl; have xer3 := Xe.c 3 rfl
      go_wp2_with fail
      refine (FL _).mono ?_
      rintro e v5 ⟨rfl, hB⟩
      replace Xp := (Xp.step hB).alloc (.cells #[.int .u64 (ww3 f), .int .u64 (ww2 f), .int .u64 (ww1 f), .int .u64 (ww0 f)] 26)
      replace Xq := (Xq.step hB).alloc (.cells #[.int .u64 (ww3 f), .int .u64 (ww2 f), .int .u64 (ww1 f), .int .u64 (ww0 f)] 26)
      replace Xe := (Xe.step hB).alloc (.cells #[.int .u64 (ww3 f), .int .u64 (ww2 f), .int .u64 (ww1 f), .int .u64 (ww0 f)] 26)
      have Xf := Blk.new v5 [.int .u64 (ww3 f), .int .u64 (ww2 f), .int .u64 (ww1 f), .int .u64 (ww0 f)] 26 rfl
      replace HB := (HB.trans (hB.mono HB.size)).alloc (HB.trans (hB.mono HB.size)).size (.cells #[.int .u64 (ww3 f), .int .u64 (ww2 f), .int .u64 (ww1 f), .int .u64 (ww0 f)] 26)
      clear hB xpr0 xpr1 xpr2 xpr3 xpr4 xpr5 xpr6 xpr7 xqr0 xqr1 xqr2 xqr3 xqr4 xqr5 xqr6 xqr7 xer0 xer1 xer2 xer3
      have xpr0 := Xp.c 0 rfl; have xpr1 := Xp.c 1 rfl; have xpr2 := Xp.c 2 rfl; have xpr3 := Xp.c 3 rfl; have xpr4 := Xp.c 4 rfl; have xpr5 := Xp.c 5 rfl; have xpr6 := Xp.c 6 rfl; have xpr7 := Xp.c 7 rfl; have xqr0 := Xq.c 0 rfl; have xqr1 := Xq.c 1 rfl; have xqr2 := Xq.c 2 rfl; have xqr3 := Xq.c 3 rfl; have xqr4 := Xq.c 4 rfl; have xqr5 := Xq.c 5 rfl; have xqr6 := Xq.c 6 rfl; have xqr7 := Xq.c 7 rfl; have xer0 := Xe.c 0 rfl; have xer1 := Xe.c 1 rfl; have xer2 := Xe.c 2 rfl; have xer3 := Xe.c 3 rfl; have xfr0 := Xf.c 0 rfl; have xfr1 := Xf.c 1 rfl; have xfr2 := Xf.c 2 rfl; have xfr3 := Xf.c 3 rfl
      go_wp2_with fail
      refine (C1 _).mono ?_
      rintro e v6 ⟨rfl, hB⟩
      replace Xp := Xp.step hB
      replace Xq := Xq.step hB
      replace Xe := Xe.step hB
      replace Xf := Xf.step hB
      replace HB := HB.trans (hB.mono HB.size)
      clear hB xpr0 xpr1 xpr2 xpr3 xpr4 xpr5 xpr6 xpr7 xqr0 xqr1 xqr2 xqr3 xqr4 xqr5 xqr6 xqr7 xer0 xer1 xer2 xer3 xfr0 xfr1 xfr2 xfr3
      have xpr0 := Xp.c 0 rfl; have xpr1 := Xp.c 1 rfl; have xpr2 := Xp.c 2 rfl; have xpr3 := Xp.c 3 rfl; have xpr4 := Xp.c 4 rfl; have xpr5 := Xp.c 5 rfl; have xpr6 := Xp.c 6 rfl; have xpr7 := Xp.c 7 rfl; have xqr0 := Xq.c 0 rfl; have xqr1 := Xq.c 1 rfl; have xqr2 := Xq.c 2 rfl; have xqr3 := Xq.c 3 rfl; have xqr4 := Xq.c 4 rfl; have xqr5 := Xq.c 5 rfl; have xqr6 := Xq.c 6 rfl; have xqr7 := Xq.c 7 rfl; have xer0 := Xe.c 0 rfl; have xer1 := Xe.c 1 rfl; have xer2 := Xe.c 2 rfl; have xer3 := Xe.c 3 rfl; have xfr0 := Xf.c 0 rfl; have xfr1 := Xf.c 1 rfl; have xfr2 := Xf.c 2 rfl; have xfr3 := Xf.c 3 rfl
      go_wp2_with fail
      refine (PL _).mono ?_
      rintro e v7 ⟨rfl, hB⟩
      replace Xp := (Xp.step hB).alloc (.cells #[.int .u64 (ww3 m), .int .u64 (ww2 m), .int .u64 (ww1 m), .int .u64 (ww0 m)] 26)
      replace Xq := (Xq.step hB).alloc (.cells #[.int .u64 (ww3 m), .int .u64 (ww2 m), .int .u64 (ww1 m), .int .u64 (ww0 m)] 26)
      replace Xe := (Xe.step hB).alloc (.cells #[.int .u64 (ww3 m), .int .u64 (ww2 m), .int .u64 (ww1 m), .int .u64 (ww0 m)] 26)
      replace Xf := (Xf.step hB).alloc (.cells #[.int .u64 (ww3 m), .int .u64 (ww2 m), .int .u64 (ww1 m), .int .u64 (ww0 m)] 26)
      have Xg := Blk.new v7 [.int .u64 (ww3 m), .int .u64 (ww2 m), .int .u64 (ww1 m), .int .u64 (ww0 m)] 26 rfl
      replace HB := (HB.trans (hB.mono HB.size)).alloc (HB.trans (hB.mono HB.size)).size (.cells #[.int .u64 (ww3 m), .int .u64 (ww2 m), .int .u64 (ww1 m), .int .u64 (ww0 m)] 26)
      clear hB xpr0 xpr1 xpr2 xpr3 xpr4 xpr5 xpr6 xpr7 xqr0 xqr1 xqr2 xqr3 xqr4 xqr5 xqr6 xqr7 xer0 xer1 xer2 xer3 xfr0 xfr1 xfr2 xfr3
      have xpr0 := Xp.c 0 rfl; have xpr1 := Xp.c 1 rfl; have xpr2 := Xp.c 2 rfl; have xpr3 := Xp.c 3 rfl; have xpr4 := Xp.c 4 rfl; have xpr5 := Xp.c 5 rfl; have xpr6 := Xp.c 6 rfl; have xpr7 := Xp.c 7 rfl; have xqr0 := Xq.c 0 rfl; have xqr1 := Xq.c 1 rfl; have xqr2 := Xq.c 2 rfl; have xqr3 := Xq.c 3 rfl; have xqr4 := Xq.c 4 rfl; have xqr5 := Xq.c 5 rfl; have xqr6 := Xq.c 6 rfl; have xqr7 := Xq.c 7 rfl; have xer0 := Xe.c 0 rfl; have xer1 := Xe.c 1 rfl; have xer2 := Xe.c 2 rfl; have xer3 := Xe.c 3 rfl; have xfr0 := Xf.c 0 rfl; have xfr1 := Xf.c 1 rfl; have xfr2 := Xf.c 2 rfl; have xfr3 := Xf.c 3 rfl; have xgr0 := Xg.c 0 rfl; have xgr1 := Xg.c 1 rfl; have xgr2 := Xg.c 2 rfl; have xgr3 := Xg.c 3 rfl
      go_wp2_with fail
      refine (C2 _).mono ?_
      rintro e v8 ⟨rfl, hB⟩
      replace Xp := Xp.step hB
      replace Xq := Xq.step hB
      replace Xe := Xe.step hB
      replace Xf := Xf.step hB
      replace Xg := Xg.step hB
      replace HB := HB.trans (hB.mono HB.size)
      clear hB xpr0 xpr1 xpr2 xpr3 xpr4 xpr5 xpr6 xpr7 xqr0 xqr1 xqr2 xqr3 xqr4 xqr5 xqr6 xqr7 xer0 xer1 xer2 xer3 xfr0 xfr1 xfr2 xfr3 xgr0 xgr1 xgr2 xgr3
      clear OF FL C1 PL C2
      cases th
      · clear hD2
        have xpr0 := Xp.c 0 rfl; have xpr1 := Xp.c 1 rfl; have xpr2 := Xp.c 2 rfl; have xpr3 := Xp.c 3 rfl; have xpr4 := Xp.c 4 rfl; have xpr5 := Xp.c 5 rfl; have xpr6 := Xp.c 6 rfl; have xpr7 := Xp.c 7 rfl; have xqr0 := Xq.c 0 rfl; have xqr1 := Xq.c 1 rfl; have xqr2 := Xq.c 2 rfl; have xqr3 := Xq.c 3 rfl; have xqr4 := Xq.c 4 rfl; have xqr5 := Xq.c 5 rfl; have xqr6 := Xq.c 6 rfl; have xqr7 := Xq.c 7 rfl; have xer0 := Xe.c 0 rfl; have xer1 := Xe.c 1 rfl; have xer2 := Xe.c 2 rfl; have xer3 := Xe.c 3 rfl; have xfr0 := Xf.c 0 rfl; have xfr1 := Xf.c 1 rfl; have xfr2 := Xf.c 2 rfl; have xfr3 := Xf.c 3 rfl; have xgr0 := Xg.c 0 rfl; have xgr1 := Xg.c 1 rfl; have xgr2 := Xg.c 2 rfl; have xgr3 := Xg.c 3 rfl
        go_wp2_with fail
        refine (NG _).mono ?_
        rintro e v9 ⟨rfl, hB⟩
        replace Xp := (Xp.step hB).alloc (.cells #[.int .u64 (ww3 m2), .int .u64 (ww2 m2), .int .u64 (ww1 m2), .int .u64 (ww0 m2)] 26)
        replace Xq := (Xq.step hB).alloc (.cells #[.int .u64 (ww3 m2), .int .u64 (ww2 m2), .int .u64 (ww1 m2), .int .u64 (ww0 m2)] 26)
        replace Xe := (Xe.step hB).alloc (.cells #[.int .u64 (ww3 m2), .int .u64 (ww2 m2), .int .u64 (ww1 m2), .int .u64 (ww0 m2)] 26)
        replace Xf := (Xf.step hB).alloc (.cells #[.int .u64 (ww3 m2), .int .u64 (ww2 m2), .int .u64 (ww1 m2), .int .u64 (ww0 m2)] 26)
        replace Xg := (Xg.step hB).alloc (.cells #[.int .u64 (ww3 m2), .int .u64 (ww2 m2), .int .u64 (ww1 m2), .int .u64 (ww0 m2)] 26)
        have Xn := Blk.new v9 [.int .u64 (ww3 m2), .int .u64 (ww2 m2), .int .u64 (ww1 m2), .int .u64 (ww0 m2)] 26 rfl
        replace HB := (HB.trans (hB.mono HB.size)).alloc (HB.trans (hB.mono HB.size)).size (.cells #[.int .u64 (ww3 m2), .int .u64 (ww2 m2), .int .u64 (ww1 m2), .int .u64 (ww0 m2)] 26)
        clear hB xpr0 xpr1 xpr2 xpr3 xpr4 xpr5 xpr6 xpr7 xqr0 xqr1 xqr2 xqr3 xqr4 xqr5 xqr6 xqr7 xer0 xer1 xer2 xer3 xfr0 xfr1 xfr2 xfr3 xgr0 xgr1 xgr2 xgr3
        have xpr0 := Xp.c 0 rfl; have xpr1 := Xp.c 1 rfl; have xpr2 := Xp.c 2 rfl; have xpr3 := Xp.c 3 rfl; have xpr4 := Xp.c 4 rfl; have xpr5 := Xp.c 5 rfl; have xpr6 := Xp.c 6 rfl; have xpr7 := Xp.c 7 rfl; have xqr0 := Xq.c 0 rfl; have xqr1 := Xq.c 1 rfl; have xqr2 := Xq.c 2 rfl; have xqr3 := Xq.c 3 rfl; have xqr4 := Xq.c 4 rfl; have xqr5 := Xq.c 5 rfl; have xqr6 := Xq.c 6 rfl; have xqr7 := Xq.c 7 rfl; have xer0 := Xe.c 0 rfl; have xer1 := Xe.c 1 rfl; have xer2 := Xe.c 2 rfl; have xer3 := Xe.c 3 rfl; have xfr0 := Xf.c 0 rfl; have xfr1 := Xf.c 1 rfl; have xfr2 := Xf.c 2 rfl; have xfr3 := Xf.c 3 rfl; have xgr0 := Xg.c 0 rfl; have xgr1 := Xg.c 1 rfl; have xgr2 := Xg.c 2 rfl; have xgr3 := Xg.c 3 rfl; have xnr0 := Xn.c 0 rfl; have xnr1 := Xn.c 1 rfl; have xnr2 := Xn.c 2 rfl; have xnr3 := Xn.c 3 rfl
        go_wp2_with fail
        refine (AD _).mono ?_
        rintro e v10 ⟨rfl, hB⟩
        replace Xp := (Xp.step hB).alloc (.cells #[.int .u64 (ww3 N), .int .u64 (ww2 N), .int .u64 (ww1 N), .int .u64 (ww0 N), .int .u64 (ww3 D), .int .u64 (ww2 D), .int .u64 (ww1 D), .int .u64 (ww0 D)] 28)
        replace Xq := (Xq.step hB).alloc (.cells #[.int .u64 (ww3 N), .int .u64 (ww2 N), .int .u64 (ww1 N), .int .u64 (ww0 N), .int .u64 (ww3 D), .int .u64 (ww2 D), .int .u64 (ww1 D), .int .u64 (ww0 D)] 28)
        replace Xe := (Xe.step hB).alloc (.cells #[.int .u64 (ww3 N), .int .u64 (ww2 N), .int .u64 (ww1 N), .int .u64 (ww0 N), .int .u64 (ww3 D), .int .u64 (ww2 D), .int .u64 (ww1 D), .int .u64 (ww0 D)] 28)
        replace Xf := (Xf.step hB).alloc (.cells #[.int .u64 (ww3 N), .int .u64 (ww2 N), .int .u64 (ww1 N), .int .u64 (ww0 N), .int .u64 (ww3 D), .int .u64 (ww2 D), .int .u64 (ww1 D), .int .u64 (ww0 D)] 28)
        replace Xg := (Xg.step hB).alloc (.cells #[.int .u64 (ww3 N), .int .u64 (ww2 N), .int .u64 (ww1 N), .int .u64 (ww0 N), .int .u64 (ww3 D), .int .u64 (ww2 D), .int .u64 (ww1 D), .int .u64 (ww0 D)] 28)
        replace Xn := (Xn.step hB).alloc (.cells #[.int .u64 (ww3 N), .int .u64 (ww2 N), .int .u64 (ww1 N), .int .u64 (ww0 N), .int .u64 (ww3 D), .int .u64 (ww2 D), .int .u64 (ww1 D), .int .u64 (ww0 D)] 28)
        have Xs := Blk.new v10 [.int .u64 (ww3 N), .int .u64 (ww2 N), .int .u64 (ww1 N), .int .u64 (ww0 N), .int .u64 (ww3 D), .int .u64 (ww2 D), .int .u64 (ww1 D), .int .u64 (ww0 D)] 28 rfl
        replace HB := (HB.trans (hB.mono HB.size)).alloc (HB.trans (hB.mono HB.size)).size (.cells #[.int .u64 (ww3 N), .int .u64 (ww2 N), .int .u64 (ww1 N), .int .u64 (ww0 N), .int .u64 (ww3 D), .int .u64 (ww2 D), .int .u64 (ww1 D), .int .u64 (ww0 D)] 28)
        clear hB xpr0 xpr1 xpr2 xpr3 xpr4 xpr5 xpr6 xpr7 xqr0 xqr1 xqr2 xqr3 xqr4 xqr5 xqr6 xqr7 xer0 xer1 xer2 xer3 xfr0 xfr1 xfr2 xfr3 xgr0 xgr1 xgr2 xgr3 xnr0 xnr1 xnr2 xnr3
        clear NG AD
        cases ok2
        · clear hsg
          have xpr0 := Xp.c 0 rfl; have xpr1 := Xp.c 1 rfl; have xpr2 := Xp.c 2 rfl; have xpr3 := Xp.c 3 rfl; have xpr4 := Xp.c 4 rfl; have xpr5 := Xp.c 5 rfl; have xpr6 := Xp.c 6 rfl; have xpr7 := Xp.c 7 rfl; have xqr0 := Xq.c 0 rfl; have xqr1 := Xq.c 1 rfl; have xqr2 := Xq.c 2 rfl; have xqr3 := Xq.c 3 rfl; have xqr4 := Xq.c 4 rfl; have xqr5 := Xq.c 5 rfl; have xqr6 := Xq.c 6 rfl; have xqr7 := Xq.c 7 rfl; have xer0 := Xe.c 0 rfl; have xer1 := Xe.c 1 rfl; have xer2 := Xe.c 2 rfl; have xer3 := Xe.c 3 rfl; have xfr0 := Xf.c 0 rfl; have xfr1 := Xf.c 1 rfl; have xfr2 := Xf.c 2 rfl; have xfr3 := Xf.c 3 rfl; have xgr0 := Xg.c 0 rfl; have xgr1 := Xg.c 1 rfl; have xgr2 := Xg.c 2 rfl; have xgr3 := Xg.c 3 rfl; have xnr0 := Xn.c 0 rfl; have xnr1 := Xn.c 1 rfl; have xnr2 := Xn.c 2 rfl; have xnr3 := Xn.c 3 rfl; have xsr0 := Xs.c 0 rfl; have xsr1 := Xs.c 1 rfl; have xsr2 := Xs.c 2 rfl; have xsr3 := Xs.c 3 rfl; have xsr4 := Xs.c 4 rfl; have xsr5 := Xs.c 5 rfl; have xsr6 := Xs.c 6 rfl; have xsr7 := Xs.c 7 rfl
          clear Xp Xq Xe Xf Xg Xn Xs
          go_wp2
          go_ret
          exact ⟨rfl, HB⟩
        · cases ok3
          · clear hsg
            have xpr0 := Xp.c 0 rfl; have xpr1 := Xp.c 1 rfl; have xpr2 := Xp.c 2 rfl; have xpr3 := Xp.c 3 rfl; have xpr4 := Xp.c 4 rfl; have xpr5 := Xp.c 5 rfl; have xpr6 := Xp.c 6 rfl; have xpr7 := Xp.c 7 rfl; have xqr0 := Xq.c 0 rfl; have xqr1 := Xq.c 1 rfl; have xqr2 := Xq.c 2 rfl; have xqr3 := Xq.c 3 rfl; have xqr4 := Xq.c 4 rfl; have xqr5 := Xq.c 5 rfl; have xqr6 := Xq.c 6 rfl; have xqr7 := Xq.c 7 rfl; have xer0 := Xe.c 0 rfl; have xer1 := Xe.c 1 rfl; have xer2 := Xe.c 2 rfl; have xer3 := Xe.c 3 rfl; have xfr0 := Xf.c 0 rfl; have xfr1 := Xf.c 1 rfl; have xfr2 := Xf.c 2 rfl; have xfr3 := Xf.c 3 rfl; have xgr0 := Xg.c 0 rfl; have xgr1 := Xg.c 1 rfl; have xgr2 := Xg.c 2 rfl; have xgr3 := Xg.c 3 rfl; have xnr0 := Xn.c 0 rfl; have xnr1 := Xn.c 1 rfl; have xnr2 := Xn.c 2 rfl; have xnr3 := Xn.c 3 rfl; have xsr0 := Xs.c 0 rfl; have xsr1 := Xs.c 1 rfl; have xsr2 := Xs.c 2 rfl; have xsr3 := Xs.c 3 rfl; have xsr4 := Xs.c 4 rfl; have xsr5 := Xs.c 5 rfl; have xsr6 := Xs.c 6 rfl; have xsr7 := Xs.c 7 rfl
            clear Xp Xq Xe Xf Xg Xn Xs
            go_wp2
            go_ret
            exact ⟨rfl, HB⟩
          · have hsg := hsg rfl rfl
            rw [hsg] at SG
            clear hsg
            have xpr0 := Xp.c 0 rfl; have xpr1 := Xp.c 1 rfl; have xpr2 := Xp.c 2 rfl; have xpr3 := Xp.c 3 rfl; have xpr4 := Xp.c 4 rfl; have xpr5 := Xp.c 5 rfl; have xpr6 := Xp.c 6 rfl; have xpr7 := Xp.c 7 rfl; have xqr0 := Xq.c 0 rfl; have xqr1 := Xq.c 1 rfl; have xqr2 := Xq.c 2 rfl; have xqr3 := Xq.c 3 rfl; have xqr4 := Xq.c 4 rfl; have xqr5 := Xq.c 5 rfl; have xqr6 := Xq.c 6 rfl; have xqr7 := Xq.c 7 rfl; have xer0 := Xe.c 0 rfl; have xer1 := Xe.c 1 rfl; have xer2 := Xe.c 2 rfl; have xer3 := Xe.c 3 rfl; have xfr0 := Xf.c 0 rfl; have xfr1 := Xf.c 1 rfl; have xfr2 := Xf.c 2 rfl; have xfr3 := Xf.c 3 rfl; have xgr0 := Xg.c 0 rfl; have xgr1 := Xg.c 1 rfl; have xgr2 := Xg.c 2 rfl; have xgr3 := Xg.c 3 rfl; have xnr0 := Xn.c 0 rfl; have xnr1 := Xn.c 1 rfl; have xnr2 := Xn.c 2 rfl; have xnr3 := Xn.c 3 rfl; have xsr0 := Xs.c 0 rfl; have xsr1 := Xs.c 1 rfl; have xsr2 := Xs.c 2 rfl; have xsr3 := Xs.c 3 rfl; have xsr4 := Xs.c 4 rfl; have xsr5 := Xs.c 5 rfl; have xsr6 := Xs.c 6 rfl; have xsr7 := Xs.c 7 rfl
            go_wp2_with fail
            refine (SG _).mono ?_
            rintro e v11 ⟨rfl, hB⟩
            replace Xp := Xp.step hB
            replace Xq := Xq.step hB
            replace Xe := Xe.step hB
            replace Xf := Xf.step hB
            replace Xg := Xg.step hB
            replace Xn := Xn.step hB
            replace Xs := Xs.step hB
            replace HB := HB.trans (hB.mono HB.size)
            clear hB xpr0 xpr1 xpr2 xpr3 xpr4 xpr5 xpr6 xpr7 xqr0 xqr1 xqr2 xqr3 xqr4 xqr5 xqr6 xqr7 xer0 xer1 xer2 xer3 xfr0 xfr1 xfr2 xfr3 xgr0 xgr1 xgr2 xgr3 xnr0 xnr1 xnr2 xnr3 xsr0 xsr1 xsr2 xsr3 xsr4 xsr5 xsr6 xsr7
            have xpr0 := Xp.c 0 rfl; have xpr1 := Xp.c 1 rfl; have xpr2 := Xp.c 2 rfl; have xpr3 := Xp.c 3 rfl; have xpr4 := Xp.c 4 rfl; have xpr5 := Xp.c 5 rfl; have xpr6 := Xp.c 6 rfl; have xpr7 := Xp.c 7 rfl; have xqr0 := Xq.c 0 rfl; have xqr1 := Xq.c 1 rfl; have xqr2 := Xq.c 2 rfl; have xqr3 := Xq.c 3 rfl; have xqr4 := Xq.c 4 rfl; have xqr5 := Xq.c 5 rfl; have xqr6 := Xq.c 6 rfl; have xqr7 := Xq.c 7 rfl; have xer0 := Xe.c 0 rfl; have xer1 := Xe.c 1 rfl; have xer2 := Xe.c 2 rfl; have xer3 := Xe.c 3 rfl; have xfr0 := Xf.c 0 rfl; have xfr1 := Xf.c 1 rfl; have xfr2 := Xf.c 2 rfl; have xfr3 := Xf.c 3 rfl; have xgr0 := Xg.c 0 rfl; have xgr1 := Xg.c 1 rfl; have xgr2 := Xg.c 2 rfl; have xgr3 := Xg.c 3 rfl; have xnr0 := Xn.c 0 rfl; have xnr1 := Xn.c 1 rfl; have xnr2 := Xn.c 2 rfl; have xnr3 := Xn.c 3 rfl; have xsr0 := Xs.c 0 rfl; have xsr1 := Xs.c 1 rfl; have xsr2 := Xs.c 2 rfl; have xsr3 := Xs.c 3 rfl; have xsr4 := Xs.c 4 rfl; have xsr5 := Xs.c 5 rfl; have xsr6 := Xs.c 6 rfl; have xsr7 := Xs.c 7 rfl
            clear Xp Xq Xe Xf Xg Xn Xs
            go_wp2
            go_ret
            exact ⟨rfl, HB⟩
      · have hD2 := hD2 rfl
        subst hD2
        have xpr0 := Xp.c 0 rfl; have xpr1 := Xp.c 1 rfl; have xpr2 := Xp.c 2 rfl; have xpr3 := Xp.c 3 rfl; have xpr4 := Xp.c 4 rfl; have xpr5 := Xp.c 5 rfl; have xpr6 := Xp.c 6 rfl; have xpr7 := Xp.c 7 rfl; have xqr0 := Xq.c 0 rfl; have xqr1 := Xq.c 1 rfl; have xqr2 := Xq.c 2 rfl; have xqr3 := Xq.c 3 rfl; have xqr4 := Xq.c 4 rfl; have xqr5 := Xq.c 5 rfl; have xqr6 := Xq.c 6 rfl; have xqr7 := Xq.c 7 rfl; have xer0 := Xe.c 0 rfl; have xer1 := Xe.c 1 rfl; have xer2 := Xe.c 2 rfl; have xer3 := Xe.c 3 rfl; have xfr0 := Xf.c 0 rfl; have xfr1 := Xf.c 1 rfl; have xfr2 := Xf.c 2 rfl; have xfr3 := Xf.c 3 rfl; have xgr0 := Xg.c 0 rfl; have xgr1 := Xg.c 1 rfl; have xgr2 := Xg.c 2 rfl; have xgr3 := Xg.c 3 rfl
        go_wp2_with fail
        refine (NG _).mono ?_
        rintro e v12 ⟨rfl, hB⟩
        replace Xp := (Xp.step hB).alloc (.cells #[.int .u64 (ww3 m2), .int .u64 (ww2 m2), .int .u64 (ww1 m2), .int .u64 (ww0 m2)] 26)
        replace Xq := (Xq.step hB).alloc (.cells #[.int .u64 (ww3 m2), .int .u64 (ww2 m2), .int .u64 (ww1 m2), .int .u64 (ww0 m2)] 26)
        replace Xe := (Xe.step hB).alloc (.cells #[.int .u64 (ww3 m2), .int .u64 (ww2 m2), .int .u64 (ww1 m2), .int .u64 (ww0 m2)] 26)
        replace Xf := (Xf.step hB).alloc (.cells #[.int .u64 (ww3 m2), .int .u64 (ww2 m2), .int .u64 (ww1 m2), .int .u64 (ww0 m2)] 26)
        replace Xg := (Xg.step hB).alloc (.cells #[.int .u64 (ww3 m2), .int .u64 (ww2 m2), .int .u64 (ww1 m2), .int .u64 (ww0 m2)] 26)
        have Xn := Blk.new v12 [.int .u64 (ww3 m2), .int .u64 (ww2 m2), .int .u64 (ww1 m2), .int .u64 (ww0 m2)] 26 rfl
        replace HB := (HB.trans (hB.mono HB.size)).alloc (HB.trans (hB.mono HB.size)).size (.cells #[.int .u64 (ww3 m2), .int .u64 (ww2 m2), .int .u64 (ww1 m2), .int .u64 (ww0 m2)] 26)
        clear hB xpr0 xpr1 xpr2 xpr3 xpr4 xpr5 xpr6 xpr7 xqr0 xqr1 xqr2 xqr3 xqr4 xqr5 xqr6 xqr7 xer0 xer1 xer2 xer3 xfr0 xfr1 xfr2 xfr3 xgr0 xgr1 xgr2 xgr3
        have xpr0 := Xp.c 0 rfl; have xpr1 := Xp.c 1 rfl; have xpr2 := Xp.c 2 rfl; have xpr3 := Xp.c 3 rfl; have xpr4 := Xp.c 4 rfl; have xpr5 := Xp.c 5 rfl; have xpr6 := Xp.c 6 rfl; have xpr7 := Xp.c 7 rfl; have xqr0 := Xq.c 0 rfl; have xqr1 := Xq.c 1 rfl; have xqr2 := Xq.c 2 rfl; have xqr3 := Xq.c 3 rfl; have xqr4 := Xq.c 4 rfl; have xqr5 := Xq.c 5 rfl; have xqr6 := Xq.c 6 rfl; have xqr7 := Xq.c 7 rfl; have xer0 := Xe.c 0 rfl; have xer1 := Xe.c 1 rfl; have xer2 := Xe.c 2 rfl; have xer3 := Xe.c 3 rfl; have xfr0 := Xf.c 0 rfl; have xfr1 := Xf.c 1 rfl; have xfr2 := Xf.c 2 rfl; have xfr3 := Xf.c 3 rfl; have xgr0 := Xg.c 0 rfl; have xgr1 := Xg.c 1 rfl; have xgr2 := Xg.c 2 rfl; have xgr3 := Xg.c 3 rfl; have xnr0 := Xn.c 0 rfl; have xnr1 := Xn.c 1 rfl; have xnr2 := Xn.c 2 rfl; have xnr3 := Xn.c 3 rfl
        go_wp2_with fail
        refine (AD _).mono ?_
        rintro e v13 ⟨rfl, hB⟩
        replace Xp := (Xp.step hB).alloc (.cells #[.int .u64 (ww3 N), .int .u64 (ww2 N), .int .u64 (ww1 N), .int .u64 (ww0 N), .int .u64 (ww3 D), .int .u64 (ww2 D), .int .u64 (ww1 D), .int .u64 (ww0 D)] 28)
        replace Xq := (Xq.step hB).alloc (.cells #[.int .u64 (ww3 N), .int .u64 (ww2 N), .int .u64 (ww1 N), .int .u64 (ww0 N), .int .u64 (ww3 D), .int .u64 (ww2 D), .int .u64 (ww1 D), .int .u64 (ww0 D)] 28)
        replace Xe := (Xe.step hB).alloc (.cells #[.int .u64 (ww3 N), .int .u64 (ww2 N), .int .u64 (ww1 N), .int .u64 (ww0 N), .int .u64 (ww3 D), .int .u64 (ww2 D), .int .u64 (ww1 D), .int .u64 (ww0 D)] 28)
        replace Xf := (Xf.step hB).alloc (.cells #[.int .u64 (ww3 N), .int .u64 (ww2 N), .int .u64 (ww1 N), .int .u64 (ww0 N), .int .u64 (ww3 D), .int .u64 (ww2 D), .int .u64 (ww1 D), .int .u64 (ww0 D)] 28)
        replace Xg := (Xg.step hB).alloc (.cells #[.int .u64 (ww3 N), .int .u64 (ww2 N), .int .u64 (ww1 N), .int .u64 (ww0 N), .int .u64 (ww3 D), .int .u64 (ww2 D), .int .u64 (ww1 D), .int .u64 (ww0 D)] 28)
        replace Xn := (Xn.step hB).alloc (.cells #[.int .u64 (ww3 N), .int .u64 (ww2 N), .int .u64 (ww1 N), .int .u64 (ww0 N), .int .u64 (ww3 D), .int .u64 (ww2 D), .int .u64 (ww1 D), .int .u64 (ww0 D)] 28)
        have Xs := Blk.new v13 [.int .u64 (ww3 N), .int .u64 (ww2 N), .int .u64 (ww1 N), .int .u64 (ww0 N), .int .u64 (ww3 D), .int .u64 (ww2 D), .int .u64 (ww1 D), .int .u64 (ww0 D)] 28 rfl
        replace HB := (HB.trans (hB.mono HB.size)).alloc (HB.trans (hB.mono HB.size)).size (.cells #[.int .u64 (ww3 N), .int .u64 (ww2 N), .int .u64 (ww1 N), .int .u64 (ww0 N), .int .u64 (ww3 D), .int .u64 (ww2 D), .int .u64 (ww1 D), .int .u64 (ww0 D)] 28)
        clear hB xpr0 xpr1 xpr2 xpr3 xpr4 xpr5 xpr6 xpr7 xqr0 xqr1 xqr2 xqr3 xqr4 xqr5 xqr6 xqr7 xer0 xer1 xer2 xer3 xfr0 xfr1 xfr2 xfr3 xgr0 xgr1 xgr2 xgr3 xnr0 xnr1 xnr2 xnr3
        clear NG AD
        cases ok2
        · clear hsg
          have xpr0 := Xp.c 0 rfl; have xpr1 := Xp.c 1 rfl; have xpr2 := Xp.c 2 rfl; have xpr3 := Xp.c 3 rfl; have xpr4 := Xp.c 4 rfl; have xpr5 := Xp.c 5 rfl; have xpr6 := Xp.c 6 rfl; have xpr7 := Xp.c 7 rfl; have xqr0 := Xq.c 0 rfl; have xqr1 := Xq.c 1 rfl; have xqr2 := Xq.c 2 rfl; have xqr3 := Xq.c 3 rfl; have xqr4 := Xq.c 4 rfl; have xqr5 := Xq.c 5 rfl; have xqr6 := Xq.c 6 rfl; have xqr7 := Xq.c 7 rfl; have xer0 := Xe.c 0 rfl; have xer1 := Xe.c 1 rfl; have xer2 := Xe.c 2 rfl; have xer3 := Xe.c 3 rfl; have xfr0 := Xf.c 0 rfl; have xfr1 := Xf.c 1 rfl; have xfr2 := Xf.c 2 rfl; have xfr3 := Xf.c 3 rfl; have xgr0 := Xg.c 0 rfl; have xgr1 := Xg.c 1 rfl; have xgr2 := Xg.c 2 rfl; have xgr3 := Xg.c 3 rfl; have xnr0 := Xn.c 0 rfl; have xnr1 := Xn.c 1 rfl; have xnr2 := Xn.c 2 rfl; have xnr3 := Xn.c 3 rfl; have xsr0 := Xs.c 0 rfl; have xsr1 := Xs.c 1 rfl; have xsr2 := Xs.c 2 rfl; have xsr3 := Xs.c 3 rfl; have xsr4 := Xs.c 4 rfl; have xsr5 := Xs.c 5 rfl; have xsr6 := Xs.c 6 rfl; have xsr7 := Xs.c 7 rfl
          clear Xp Xq Xe Xf Xg Xn Xs
          go_wp2
          go_ret
          exact ⟨rfl, HB⟩
        · cases ok3
          · clear hsg
            have xpr0 := Xp.c 0 rfl; have xpr1 := Xp.c 1 rfl; have xpr2 := Xp.c 2 rfl; have xpr3 := Xp.c 3 rfl; have xpr4 := Xp.c 4 rfl; have xpr5 := Xp.c 5 rfl; have xpr6 := Xp.c 6 rfl; have xpr7 := Xp.c 7 rfl; have xqr0 := Xq.c 0 rfl; have xqr1 := Xq.c 1 rfl; have xqr2 := Xq.c 2 rfl; have xqr3 := Xq.c 3 rfl; have xqr4 := Xq.c 4 rfl; have xqr5 := Xq.c 5 rfl; have xqr6 := Xq.c 6 rfl; have xqr7 := Xq.c 7 rfl; have xer0 := Xe.c 0 rfl; have xer1 := Xe.c 1 rfl; have xer2 := Xe.c 2 rfl; have xer3 := Xe.c 3 rfl; have xfr0 := Xf.c 0 rfl; have xfr1 := Xf.c 1 rfl; have xfr2 := Xf.c 2 rfl; have xfr3 := Xf.c 3 rfl; have xgr0 := Xg.c 0 rfl; have xgr1 := Xg.c 1 rfl; have xgr2 := Xg.c 2 rfl; have xgr3 := Xg.c 3 rfl; have xnr0 := Xn.c 0 rfl; have xnr1 := Xn.c 1 rfl; have xnr2 := Xn.c 2 rfl; have xnr3 := Xn.c 3 rfl; have xsr0 := Xs.c 0 rfl; have xsr1 := Xs.c 1 rfl; have xsr2 := Xs.c 2 rfl; have xsr3 := Xs.c 3 rfl; have xsr4 := Xs.c 4 rfl; have xsr5 := Xs.c 5 rfl; have xsr6 := Xs.c 6 rfl; have xsr7 := Xs.c 7 rfl
            clear Xp Xq Xe Xf Xg Xn Xs
            go_wp2
            go_ret
            exact ⟨rfl, HB⟩
          · have hsg := hsg rfl rfl
            rw [hsg] at SG
            clear hsg
            have xpr0 := Xp.c 0 rfl; have xpr1 := Xp.c 1 rfl; have xpr2 := Xp.c 2 rfl; have xpr3 := Xp.c 3 rfl; have xpr4 := Xp.c 4 rfl; have xpr5 := Xp.c 5 rfl; have xpr6 := Xp.c 6 rfl; have xpr7 := Xp.c 7 rfl; have xqr0 := Xq.c 0 rfl; have xqr1 := Xq.c 1 rfl; have xqr2 := Xq.c 2 rfl; have xqr3 := Xq.c 3 rfl; have xqr4 := Xq.c 4 rfl; have xqr5 := Xq.c 5 rfl; have xqr6 := Xq.c 6 rfl; have xqr7 := Xq.c 7 rfl; have xer0 := Xe.c 0 rfl; have xer1 := Xe.c 1 rfl; have xer2 := Xe.c 2 rfl; have xer3 := Xe.c 3 rfl; have xfr0 := Xf.c 0 rfl; have xfr1 := Xf.c 1 rfl; have xfr2 := Xf.c 2 rfl; have xfr3 := Xf.c 3 rfl; have xgr0 := Xg.c 0 rfl; have xgr1 := Xg.c 1 rfl; have xgr2 := Xg.c 2 rfl; have xgr3 := Xg.c 3 rfl; have xnr0 := Xn.c 0 rfl; have xnr1 := Xn.c 1 rfl; have xnr2 := Xn.c 2 rfl; have xnr3 := Xn.c 3 rfl; have xsr0 := Xs.c 0 rfl; have xsr1 := Xs.c 1 rfl; have xsr2 := Xs.c 2 rfl; have xsr3 := Xs.c 3 rfl; have xsr4 := Xs.c 4 rfl; have xsr5 := Xs.c 5 rfl; have xsr6 := Xs.c 6 rfl; have xsr7 := Xs.c 7 rfl
            go_wp2_with fail
            refine (SG _).mono ?_
            rintro e v14 ⟨rfl, hB⟩
            replace Xp := Xp.step hB
            replace Xq := Xq.step hB
            replace Xe := Xe.step hB
            replace Xf := Xf.step hB
            replace Xg := Xg.step hB
            replace Xn := Xn.step hB
            replace Xs := Xs.step hB
            replace HB := HB.trans (hB.mono HB.size)
            clear hB xpr0 xpr1 xpr2 xpr3 xpr4 xpr5 xpr6 xpr7 xqr0 xqr1 xqr2 xqr3 xqr4 xqr5 xqr6 xqr7 xer0 xer1 xer2 xer3 xfr0 xfr1 xfr2 xfr3 xgr0 xgr1 xgr2 xgr3 xnr0 xnr1 xnr2 xnr3 xsr0 xsr1 xsr2 xsr3 xsr4 xsr5 xsr6 xsr7
            have xpr0 := Xp.c 0 rfl; have xpr1 := Xp.c 1 rfl; have xpr2 := Xp.c 2 rfl; have xpr3 := Xp.c 3 rfl; have xpr4 := Xp.c 4 rfl; have xpr5 := Xp.c 5 rfl; have xpr6 := Xp.c 6 rfl; have xpr7 := Xp.c 7 rfl; have xqr0 := Xq.c 0 rfl; have xqr1 := Xq.c 1 rfl; have xqr2 := Xq.c 2 rfl; have xqr3 := Xq.c 3 rfl; have xqr4 := Xq.c 4 rfl; have xqr5 := Xq.c 5 rfl; have xqr6 := Xq.c 6 rfl; have xqr7 := Xq.c 7 rfl; have xer0 := Xe.c 0 rfl; have xer1 := Xe.c 1 rfl; have xer2 := Xe.c 2 rfl; have xer3 := Xe.c 3 rfl; have xfr0 := Xf.c 0 rfl; have xfr1 := Xf.c 1 rfl; have xfr2 := Xf.c 2 rfl; have xfr3 := Xf.c 3 rfl; have xgr0 := Xg.c 0 rfl; have xgr1 := Xg.c 1 rfl; have xgr2 := Xg.c 2 rfl; have xgr3 := Xg.c 3 rfl; have xnr0 := Xn.c 0 rfl; have xnr1 := Xn.c 1 rfl; have xnr2 := Xn.c 2 rfl; have xnr3 := Xn.c 3 rfl; have xsr0 := Xs.c 0 rfl; have xsr1 := Xs.c 1 rfl; have xsr2 := Xs.c 2 rfl; have xsr3 := Xs.c 3 rfl; have xsr4 := Xs.c 4 rfl; have xsr5 := Xs.c 5 rfl; have xsr6 := Xs.c 6 rfl; have xsr7 := Xs.c 7 rfl
            clear Xp Xq Xe Xf Xg Xn Xs
            go_wp2
            go_ret
            exact ⟨rfl, HB⟩
end Go.Proofs.Ytlmlpcdpfeaikaa
