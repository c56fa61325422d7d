/- Sums and products of drawn fractions: the law. -/
import Derived.Test.YtgeaklaocifhcaaFr15
namespace Go.Proofs.Ytgeaklaocifhcaa
open Go.RowKit
theorem bigc_any (ao : Option Addr) (n cap : Nat) (w : World) (z : Bool) (hz : decide (1048576 < n) = z) : Calls Try.prog 5 #[.slice ao n cap] w (BoolP z w) := by
  subst hz
  go_enter Try.func5, Try.ntmps5
  go_wp2
  go_ret
  exact ⟨by simp; try omega, Below.refl _ _⟩
set_option maxRecDepth 100000 in
set_option maxHeartbeats 8000000 in
theorem lawRatioSums_any (ao : Option Addr) (n cap : Nat) (cs : List Int) (w : World) (h : n ≤ 1048576 → Code w ao n cs) : Calls Try.prog 3 #[.slice ao n cap] w (BoolP true w) := by
  by_cases hn : 1048576 < n
  · go_enter Try.func3, Try.ntmps3
    go_wp2_with fail
    refine (bigc_any ao n cap _ true (by simpa using hn)).mono ?_
    rintro e w1 ⟨rfl, hB⟩
    clear h
    go_wp2
    go_ret
    exact ⟨rfl, hB⟩
  · have hc := h (by omega)
    clear h
    go_enter Try.func3, Try.ntmps3
    go_wp2_with fail
    refine (bigc_any ao n cap _ false (by simpa using hn)).mono ?_
    rintro e w1 ⟨rfl, hB⟩
    replace hc := hc.below hB
    have HB := hB
    clear hB
    go_wp2_with fail
    refine (drawRatioAdd_any ao n cap cs _ hc).mono ?_
    rintro e w2 ⟨x, y, u, v, rfl, tx, ty, tu, tv, hB⟩
    replace HB := HB.trans (hB.mono HB.size)
    clear hB hc
    have Xp : Blk ((w2.alloc (.cells #[.int .u64 (ww3 x), .int .u64 (ww2 x), .int .u64 (ww1 x), .int .u64 (ww0 x), .int .u64 (ww3 y), .int .u64 (ww2 y), .int .u64 (ww1 y), .int .u64 (ww0 y)] 28)).alloc (.cells #[.int .u64 (ww3 u), .int .u64 (ww2 u), .int .u64 (ww1 u), .int .u64 (ww0 u), .int .u64 (ww3 v), .int .u64 (ww2 v), .int .u64 (ww1 v), .int .u64 (ww0 v)] 28)) w2.heap.size [.int .u64 (ww3 x), .int .u64 (ww2 x), .int .u64 (ww1 x), .int .u64 (ww0 x), .int .u64 (ww3 y), .int .u64 (ww2 y), .int .u64 (ww1 y), .int .u64 (ww0 y)] := (Blk.new w2 _ _ rfl).alloc _
    have Xq : Blk ((w2.alloc (.cells #[.int .u64 (ww3 x), .int .u64 (ww2 x), .int .u64 (ww1 x), .int .u64 (ww0 x), .int .u64 (ww3 y), .int .u64 (ww2 y), .int .u64 (ww1 y), .int .u64 (ww0 y)] 28)).alloc (.cells #[.int .u64 (ww3 u), .int .u64 (ww2 u), .int .u64 (ww1 u), .int .u64 (ww0 u), .int .u64 (ww3 v), .int .u64 (ww2 v), .int .u64 (ww1 v), .int .u64 (ww0 v)] 28)) (w2.heap.size + 1) [.int .u64 (ww3 u), .int .u64 (ww2 u), .int .u64 (ww1 u), .int .u64 (ww0 u), .int .u64 (ww3 v), .int .u64 (ww2 v), .int .u64 (ww1 v), .int .u64 (ww0 v)] := Blk.new (w2.alloc (.cells #[.int .u64 (ww3 x), .int .u64 (ww2 x), .int .u64 (ww1 x), .int .u64 (ww0 x), .int .u64 (ww3 y), .int .u64 (ww2 y), .int .u64 (ww1 y), .int .u64 (ww0 y)] 28)) _ _ (by simp)
    replace HB := (HB.alloc HB.size (.cells #[.int .u64 (ww3 x), .int .u64 (ww2 x), .int .u64 (ww1 x), .int .u64 (ww0 x), .int .u64 (ww3 y), .int .u64 (ww2 y), .int .u64 (ww1 y), .int .u64 (ww0 y)] 28)).alloc (HB.alloc HB.size (.cells #[.int .u64 (ww3 x), .int .u64 (ww2 x), .int .u64 (ww1 x), .int .u64 (ww0 x), .int .u64 (ww3 y), .int .u64 (ww2 y), .int .u64 (ww1 y), .int .u64 (ww0 y)] 28)).size (.cells #[.int .u64 (ww3 u), .int .u64 (ww2 u), .int .u64 (ww1 u), .int .u64 (ww0 u), .int .u64 (ww3 v), .int .u64 (ww2 v), .int .u64 (ww1 v), .int .u64 (ww0 v)] 28)
    have I0 := addZ_det x y u v tx ty tu tv
    have I1 := addZ_det u v x y tu tv tx ty
    have I2 := addS_det x y u v tx ty tu tv
    have M0 := mulZ_det x y u v tx ty tu tv
    have M1 := mulZ_det u v x y tu tv tx ty
    have SG := sign_det u tu
    rw [sum_comm x y u v] at I1
    rw [mul_comm2 x y u v] at M1
    obtain ⟨N, D, ok, hS, tN, tD, HS⟩ := sum_facts x y u v tx ty
    obtain ⟨P, Q, ok2, hM, tP, tQ, HM'⟩ := mul_facts x y u v tx ty
    have HM : Hid (ok2 = true → u ≠ 0 → rat2V P Q u v (P * v) (u * Q) = .tuple #[RZ x y, .bool true] ∧ rightB P Q = true) := HM'
    clear HM'
    rw [hS] at I0 I1 I2
    rw [hM] at M0 M1
    clear hS hM
    have ES := eqRZ N D N D tN tD tN tD
    have EP := eqRZ P Q P Q tP tQ tP tQ
    have EX := eqRZ x y x y tx ty tx ty
    rw [show (decide (N = N) && decide (D = D)) = true by simp] at ES
    rw [show (decide (P = P) && decide (Q = Q)) = true by simp] at EP
    rw [show (decide (x = x) && decide (y = y)) = true by simp] at EX
    have hkk : (ok == ok) = true := by simp
    have hk2 : (ok2 == ok2) = true := by simp
    have xpr0 := Xp.c 0 rfl; have xpr1 := Xp.c 1 rfl; have xpr2 := Xp.c 2 rfl; have xpr3 := Xp.c 3 rfl; have xpr4 := Xp.c 4 rfl; have xpr5 := Xp.c 5 rfl; have xpr6 := Xp.c 6 rfl; have xpr7 := Xp.c 7 rfl; have xqr0 := Xq.c 0 rfl; have xqr1 := Xq.c 1 rfl; have xqr2 := Xq.c 2 rfl; have xqr3 := Xq.c 3 rfl; have xqr4 := Xq.c 4 rfl; have xqr5 := Xq.c 5 rfl; have xqr6 := Xq.c 6 rfl; have xqr7 := Xq.c 7 rfl
    go_wp2_with fail
    refine (I0 _).mono ?_
    rintro e v1 ⟨rfl, hB⟩
    replace Xp := (Xp.step hB).alloc (.cells #[.int .u64 (ww3 N), .int .u64 (ww2 N), .int .u64 (ww1 N), .int .u64 (ww0 N), .int .u64 (ww3 D), .int .u64 (ww2 D), .int .u64 (ww1 D), .int .u64 (ww0 D)] 28)
    replace Xq := (Xq.step hB).alloc (.cells #[.int .u64 (ww3 N), .int .u64 (ww2 N), .int .u64 (ww1 N), .int .u64 (ww0 N), .int .u64 (ww3 D), .int .u64 (ww2 D), .int .u64 (ww1 D), .int .u64 (ww0 D)] 28)
    have Xs := Blk.new v1 [.int .u64 (ww3 N), .int .u64 (ww2 N), .int .u64 (ww1 N), .int .u64 (ww0 N), .int .u64 (ww3 D), .int .u64 (ww2 D), .int .u64 (ww1 D), .int .u64 (ww0 D)] 28 rfl
    replace HB := (HB.trans (hB.mono HB.size)).alloc (HB.trans (hB.mono HB.size)).size (.cells #[.int .u64 (ww3 N), .int .u64 (ww2 N), .int .u64 (ww1 N), .int .u64 (ww0 N), .int .u64 (ww3 D), .int .u64 (ww2 D), .int .u64 (ww1 D), .int .u64 (ww0 D)] 28)
    clear hB xpr0 xpr1 xpr2 xpr3 xpr4 xpr5 xpr6 xpr7 xqr0 xqr1 xqr2 xqr3 xqr4 xqr5 xqr6 xqr7
    have xpr0 := Xp.c 0 rfl; have xpr1 := Xp.c 1 rfl; have xpr2 := Xp.c 2 rfl; have xpr3 := Xp.c 3 rfl; have xpr4 := Xp.c 4 rfl; have xpr5 := Xp.c 5 rfl; have xpr6 := Xp.c 6 rfl; have xpr7 := Xp.c 7 rfl; have xqr0 := Xq.c 0 rfl; have xqr1 := Xq.c 1 rfl; have xqr2 := Xq.c 2 rfl; have xqr3 := Xq.c 3 rfl; have xqr4 := Xq.c 4 rfl; have xqr5 := Xq.c 5 rfl; have xqr6 := Xq.c 6 rfl; have xqr7 := Xq.c 7 rfl; have xsr0 := Xs.c 0 rfl; have xsr1 := Xs.c 1 rfl; have xsr2 := Xs.c 2 rfl; have xsr3 := Xs.c 3 rfl; have xsr4 := Xs.c 4 rfl; have xsr5 := Xs.c 5 rfl; have xsr6 := Xs.c 6 rfl; have xsr7 := Xs.c 7 rfl
    go_wp2_with fail
    refine (I1 _).mono ?_
    rintro e v2 ⟨rfl, hB⟩
    replace Xp := (Xp.step hB).alloc (.cells #[.int .u64 (ww3 N), .int .u64 (ww2 N), .int .u64 (ww1 N), .int .u64 (ww0 N), .int .u64 (ww3 D), .int .u64 (ww2 D), .int .u64 (ww1 D), .int .u64 (ww0 D)] 28)
    replace Xq := (Xq.step hB).alloc (.cells #[.int .u64 (ww3 N), .int .u64 (ww2 N), .int .u64 (ww1 N), .int .u64 (ww0 N), .int .u64 (ww3 D), .int .u64 (ww2 D), .int .u64 (ww1 D), .int .u64 (ww0 D)] 28)
    replace Xs := (Xs.step hB).alloc (.cells #[.int .u64 (ww3 N), .int .u64 (ww2 N), .int .u64 (ww1 N), .int .u64 (ww0 N), .int .u64 (ww3 D), .int .u64 (ww2 D), .int .u64 (ww1 D), .int .u64 (ww0 D)] 28)
    have Xt := Blk.new v2 [.int .u64 (ww3 N), .int .u64 (ww2 N), .int .u64 (ww1 N), .int .u64 (ww0 N), .int .u64 (ww3 D), .int .u64 (ww2 D), .int .u64 (ww1 D), .int .u64 (ww0 D)] 28 rfl
    replace HB := (HB.trans (hB.mono HB.size)).alloc (HB.trans (hB.mono HB.size)).size (.cells #[.int .u64 (ww3 N), .int .u64 (ww2 N), .int .u64 (ww1 N), .int .u64 (ww0 N), .int .u64 (ww3 D), .int .u64 (ww2 D), .int .u64 (ww1 D), .int .u64 (ww0 D)] 28)
    clear hB xpr0 xpr1 xpr2 xpr3 xpr4 xpr5 xpr6 xpr7 xqr0 xqr1 xqr2 xqr3 xqr4 xqr5 xqr6 xqr7 xsr0 xsr1 xsr2 xsr3 xsr4 xsr5 xsr6 xsr7
    have xpr0 := Xp.c 0 rfl; have xpr1 := Xp.c 1 rfl; have xpr2 := Xp.c 2 rfl; have xpr3 := Xp.c 3 rfl; have xpr4 := Xp.c 4 rfl; have xpr5 := Xp.c 5 rfl; have xpr6 := Xp.c 6 rfl; have xpr7 := Xp.c 7 rfl; have xqr0 := Xq.c 0 rfl; have xqr1 := Xq.c 1 rfl; have xqr2 := Xq.c 2 rfl; have xqr3 := Xq.c 3 rfl; have xqr4 := Xq.c 4 rfl; have xqr5 := Xq.c 5 rfl; have xqr6 := Xq.c 6 rfl; have xqr7 := Xq.c 7 rfl; have xsr0 := Xs.c 0 rfl; have xsr1 := Xs.c 1 rfl; have xsr2 := Xs.c 2 rfl; have xsr3 := Xs.c 3 rfl; have xsr4 := Xs.c 4 rfl; have xsr5 := Xs.c 5 rfl; have xsr6 := Xs.c 6 rfl; have xsr7 := Xs.c 7 rfl; have xtr0 := Xt.c 0 rfl; have xtr1 := Xt.c 1 rfl; have xtr2 := Xt.c 2 rfl; have xtr3 := Xt.c 3 rfl; have xtr4 := Xt.c 4 rfl; have xtr5 := Xt.c 5 rfl; have xtr6 := Xt.c 6 rfl; have xtr7 := Xt.c 7 rfl
    go_wp2_with fail
    refine (I2 _).mono ?_
    rintro e v3 ⟨rfl, hB⟩
    replace Xp := (Xp.step hB).alloc (.cells #[.int .u64 (ww3 N), .int .u64 (ww2 N), .int .u64 (ww1 N), .int .u64 (ww0 N), .int .u64 (ww3 D), .int .u64 (ww2 D), .int .u64 (ww1 D), .int .u64 (ww0 D)] 28)
    replace Xq := (Xq.step hB).alloc (.cells #[.int .u64 (ww3 N), .int .u64 (ww2 N), .int .u64 (ww1 N), .int .u64 (ww0 N), .int .u64 (ww3 D), .int .u64 (ww2 D), .int .u64 (ww1 D), .int .u64 (ww0 D)] 28)
    replace Xs := (Xs.step hB).alloc (.cells #[.int .u64 (ww3 N), .int .u64 (ww2 N), .int .u64 (ww1 N), .int .u64 (ww0 N), .int .u64 (ww3 D), .int .u64 (ww2 D), .int .u64 (ww1 D), .int .u64 (ww0 D)] 28)
    replace Xt := (Xt.step hB).alloc (.cells #[.int .u64 (ww3 N), .int .u64 (ww2 N), .int .u64 (ww1 N), .int .u64 (ww0 N), .int .u64 (ww3 D), .int .u64 (ww2 D), .int .u64 (ww1 D), .int .u64 (ww0 D)] 28)
    have Xw := Blk.new v3 [.int .u64 (ww3 N), .int .u64 (ww2 N), .int .u64 (ww1 N), .int .u64 (ww0 N), .int .u64 (ww3 D), .int .u64 (ww2 D), .int .u64 (ww1 D), .int .u64 (ww0 D)] 28 rfl
    replace HB := (HB.trans (hB.mono HB.size)).alloc (HB.trans (hB.mono HB.size)).size (.cells #[.int .u64 (ww3 N), .int .u64 (ww2 N), .int .u64 (ww1 N), .int .u64 (ww0 N), .int .u64 (ww3 D), .int .u64 (ww2 D), .int .u64 (ww1 D), .int .u64 (ww0 D)] 28)
    clear hB xpr0 xpr1 xpr2 xpr3 xpr4 xpr5 xpr6 xpr7 xqr0 xqr1 xqr2 xqr3 xqr4 xqr5 xqr6 xqr7 xsr0 xsr1 xsr2 xsr3 xsr4 xsr5 xsr6 xsr7 xtr0 xtr1 xtr2 xtr3 xtr4 xtr5 xtr6 xtr7
    clear I0 I1 I2 hkk
    cases ok
    · clear HS
      have xpr0 := Xp.c 0 rfl; have xpr1 := Xp.c 1 rfl; have xpr2 := Xp.c 2 rfl; have xpr3 := Xp.c 3 rfl; have xpr4 := Xp.c 4 rfl; have xpr5 := Xp.c 5 rfl; have xpr6 := Xp.c 6 rfl; have xpr7 := Xp.c 7 rfl; have xqr0 := Xq.c 0 rfl; have xqr1 := Xq.c 1 rfl; have xqr2 := Xq.c 2 rfl; have xqr3 := Xq.c 3 rfl; have xqr4 := Xq.c 4 rfl; have xqr5 := Xq.c 5 rfl; have xqr6 := Xq.c 6 rfl; have xqr7 := Xq.c 7 rfl; have xsr0 := Xs.c 0 rfl; have xsr1 := Xs.c 1 rfl; have xsr2 := Xs.c 2 rfl; have xsr3 := Xs.c 3 rfl; have xsr4 := Xs.c 4 rfl; have xsr5 := Xs.c 5 rfl; have xsr6 := Xs.c 6 rfl; have xsr7 := Xs.c 7 rfl; have xtr0 := Xt.c 0 rfl; have xtr1 := Xt.c 1 rfl; have xtr2 := Xt.c 2 rfl; have xtr3 := Xt.c 3 rfl; have xtr4 := Xt.c 4 rfl; have xtr5 := Xt.c 5 rfl; have xtr6 := Xt.c 6 rfl; have xtr7 := Xt.c 7 rfl; have xwr0 := Xw.c 0 rfl; have xwr1 := Xw.c 1 rfl; have xwr2 := Xw.c 2 rfl; have xwr3 := Xw.c 3 rfl; have xwr4 := Xw.c 4 rfl; have xwr5 := Xw.c 5 rfl; have xwr6 := Xw.c 6 rfl; have xwr7 := Xw.c 7 rfl
      go_wp2_with fail
      refine (M0 _).mono ?_
      rintro e v4 ⟨rfl, hB⟩
      replace Xp := (Xp.step hB).alloc (.cells #[.int .u64 (ww3 P), .int .u64 (ww2 P), .int .u64 (ww1 P), .int .u64 (ww0 P), .int .u64 (ww3 Q), .int .u64 (ww2 Q), .int .u64 (ww1 Q), .int .u64 (ww0 Q)] 28)
      replace Xq := (Xq.step hB).alloc (.cells #[.int .u64 (ww3 P), .int .u64 (ww2 P), .int .u64 (ww1 P), .int .u64 (ww0 P), .int .u64 (ww3 Q), .int .u64 (ww2 Q), .int .u64 (ww1 Q), .int .u64 (ww0 Q)] 28)
      replace Xs := (Xs.step hB).alloc (.cells #[.int .u64 (ww3 P), .int .u64 (ww2 P), .int .u64 (ww1 P), .int .u64 (ww0 P), .int .u64 (ww3 Q), .int .u64 (ww2 Q), .int .u64 (ww1 Q), .int .u64 (ww0 Q)] 28)
      replace Xt := (Xt.step hB).alloc (.cells #[.int .u64 (ww3 P), .int .u64 (ww2 P), .int .u64 (ww1 P), .int .u64 (ww0 P), .int .u64 (ww3 Q), .int .u64 (ww2 Q), .int .u64 (ww1 Q), .int .u64 (ww0 Q)] 28)
      replace Xw := (Xw.step hB).alloc (.cells #[.int .u64 (ww3 P), .int .u64 (ww2 P), .int .u64 (ww1 P), .int .u64 (ww0 P), .int .u64 (ww3 Q), .int .u64 (ww2 Q), .int .u64 (ww1 Q), .int .u64 (ww0 Q)] 28)
      have Xm := Blk.new v4 [.int .u64 (ww3 P), .int .u64 (ww2 P), .int .u64 (ww1 P), .int .u64 (ww0 P), .int .u64 (ww3 Q), .int .u64 (ww2 Q), .int .u64 (ww1 Q), .int .u64 (ww0 Q)] 28 rfl
      replace HB := (HB.trans (hB.mono HB.size)).alloc (HB.trans (hB.mono HB.size)).size (.cells #[.int .u64 (ww3 P), .int .u64 (ww2 P), .int .u64 (ww1 P), .int .u64 (ww0 P), .int .u64 (ww3 Q), .int .u64 (ww2 Q), .int .u64 (ww1 Q), .int .u64 (ww0 Q)] 28)
      clear hB xpr0 xpr1 xpr2 xpr3 xpr4 xpr5 xpr6 xpr7 xqr0 xqr1 xqr2 xqr3 xqr4 xqr5 xqr6 xqr7 xsr0 xsr1 xsr2 xsr3 xsr4 xsr5 xsr6 xsr7 xtr0 xtr1 xtr2 xtr3 xtr4 xtr5 xtr6 xtr7 xwr0 xwr1 xwr2 xwr3 xwr4 xwr5 xwr6 xwr7
      have xpr0 := Xp.c 0 rfl; have xpr1 := Xp.c 1 rfl; have xpr2 := Xp.c 2 rfl; have xpr3 := Xp.c 3 rfl; have xpr4 := Xp.c 4 rfl; have xpr5 := Xp.c 5 rfl; have xpr6 := Xp.c 6 rfl; have xpr7 := Xp.c 7 rfl; have xqr0 := Xq.c 0 rfl; have xqr1 := Xq.c 1 rfl; have xqr2 := Xq.c 2 rfl; have xqr3 := Xq.c 3 rfl; have xqr4 := Xq.c 4 rfl; have xqr5 := Xq.c 5 rfl; have xqr6 := Xq.c 6 rfl; have xqr7 := Xq.c 7 rfl; have xsr0 := Xs.c 0 rfl; have xsr1 := Xs.c 1 rfl; have xsr2 := Xs.c 2 rfl; have xsr3 := Xs.c 3 rfl; have xsr4 := Xs.c 4 rfl; have xsr5 := Xs.c 5 rfl; have xsr6 := Xs.c 6 rfl; have xsr7 := Xs.c 7 rfl; have xtr0 := Xt.c 0 rfl; have xtr1 := Xt.c 1 rfl; have xtr2 := Xt.c 2 rfl; have xtr3 := Xt.c 3 rfl; have xtr4 := Xt.c 4 rfl; have xtr5 := Xt.c 5 rfl; have xtr6 := Xt.c 6 rfl; have xtr7 := Xt.c 7 rfl; have xwr0 := Xw.c 0 rfl; have xwr1 := Xw.c 1 rfl; have xwr2 := Xw.c 2 rfl; have xwr3 := Xw.c 3 rfl; have xwr4 := Xw.c 4 rfl; have xwr5 := Xw.c 5 rfl; have xwr6 := Xw.c 6 rfl; have xwr7 := Xw.c 7 rfl; have xmr0 := Xm.c 0 rfl; have xmr1 := Xm.c 1 rfl; have xmr2 := Xm.c 2 rfl; have xmr3 := Xm.c 3 rfl; have xmr4 := Xm.c 4 rfl; have xmr5 := Xm.c 5 rfl; have xmr6 := Xm.c 6 rfl; have xmr7 := Xm.c 7 rfl
      go_wp2_with fail
      refine (M1 _).mono ?_
      rintro e v5 ⟨rfl, hB⟩
      replace Xp := (Xp.step hB).alloc (.cells #[.int .u64 (ww3 P), .int .u64 (ww2 P), .int .u64 (ww1 P), .int .u64 (ww0 P), .int .u64 (ww3 Q), .int .u64 (ww2 Q), .int .u64 (ww1 Q), .int .u64 (ww0 Q)] 28)
      replace Xq := (Xq.step hB).alloc (.cells #[.int .u64 (ww3 P), .int .u64 (ww2 P), .int .u64 (ww1 P), .int .u64 (ww0 P), .int .u64 (ww3 Q), .int .u64 (ww2 Q), .int .u64 (ww1 Q), .int .u64 (ww0 Q)] 28)
      replace Xs := (Xs.step hB).alloc (.cells #[.int .u64 (ww3 P), .int .u64 (ww2 P), .int .u64 (ww1 P), .int .u64 (ww0 P), .int .u64 (ww3 Q), .int .u64 (ww2 Q), .int .u64 (ww1 Q), .int .u64 (ww0 Q)] 28)
      replace Xt := (Xt.step hB).alloc (.cells #[.int .u64 (ww3 P), .int .u64 (ww2 P), .int .u64 (ww1 P), .int .u64 (ww0 P), .int .u64 (ww3 Q), .int .u64 (ww2 Q), .int .u64 (ww1 Q), .int .u64 (ww0 Q)] 28)
      replace Xw := (Xw.step hB).alloc (.cells #[.int .u64 (ww3 P), .int .u64 (ww2 P), .int .u64 (ww1 P), .int .u64 (ww0 P), .int .u64 (ww3 Q), .int .u64 (ww2 Q), .int .u64 (ww1 Q), .int .u64 (ww0 Q)] 28)
      replace Xm := (Xm.step hB).alloc (.cells #[.int .u64 (ww3 P), .int .u64 (ww2 P), .int .u64 (ww1 P), .int .u64 (ww0 P), .int .u64 (ww3 Q), .int .u64 (ww2 Q), .int .u64 (ww1 Q), .int .u64 (ww0 Q)] 28)
      have Xo := Blk.new v5 [.int .u64 (ww3 P), .int .u64 (ww2 P), .int .u64 (ww1 P), .int .u64 (ww0 P), .int .u64 (ww3 Q), .int .u64 (ww2 Q), .int .u64 (ww1 Q), .int .u64 (ww0 Q)] 28 rfl
      replace HB := (HB.trans (hB.mono HB.size)).alloc (HB.trans (hB.mono HB.size)).size (.cells #[.int .u64 (ww3 P), .int .u64 (ww2 P), .int .u64 (ww1 P), .int .u64 (ww0 P), .int .u64 (ww3 Q), .int .u64 (ww2 Q), .int .u64 (ww1 Q), .int .u64 (ww0 Q)] 28)
      clear hB xpr0 xpr1 xpr2 xpr3 xpr4 xpr5 xpr6 xpr7 xqr0 xqr1 xqr2 xqr3 xqr4 xqr5 xqr6 xqr7 xsr0 xsr1 xsr2 xsr3 xsr4 xsr5 xsr6 xsr7 xtr0 xtr1 xtr2 xtr3 xtr4 xtr5 xtr6 xtr7 xwr0 xwr1 xwr2 xwr3 xwr4 xwr5 xwr6 xwr7 xmr0 xmr1 xmr2 xmr3 xmr4 xmr5 xmr6 xmr7
      cases ok2
      · skip
        have xpr0 := Xp.c 0 rfl; have xpr1 := Xp.c 1 rfl; have xpr2 := Xp.c 2 rfl; have xpr3 := Xp.c 3 rfl; have xpr4 := Xp.c 4 rfl; have xpr5 := Xp.c 5 rfl; have xpr6 := Xp.c 6 rfl; have xpr7 := Xp.c 7 rfl; have xqr0 := Xq.c 0 rfl; have xqr1 := Xq.c 1 rfl; have xqr2 := Xq.c 2 rfl; have xqr3 := Xq.c 3 rfl; have xqr4 := Xq.c 4 rfl; have xqr5 := Xq.c 5 rfl; have xqr6 := Xq.c 6 rfl; have xqr7 := Xq.c 7 rfl; have xsr0 := Xs.c 0 rfl; have xsr1 := Xs.c 1 rfl; have xsr2 := Xs.c 2 rfl; have xsr3 := Xs.c 3 rfl; have xsr4 := Xs.c 4 rfl; have xsr5 := Xs.c 5 rfl; have xsr6 := Xs.c 6 rfl; have xsr7 := Xs.c 7 rfl; have xtr0 := Xt.c 0 rfl; have xtr1 := Xt.c 1 rfl; have xtr2 := Xt.c 2 rfl; have xtr3 := Xt.c 3 rfl; have xtr4 := Xt.c 4 rfl; have xtr5 := Xt.c 5 rfl; have xtr6 := Xt.c 6 rfl; have xtr7 := Xt.c 7 rfl; have xwr0 := Xw.c 0 rfl; have xwr1 := Xw.c 1 rfl; have xwr2 := Xw.c 2 rfl; have xwr3 := Xw.c 3 rfl; have xwr4 := Xw.c 4 rfl; have xwr5 := Xw.c 5 rfl; have xwr6 := Xw.c 6 rfl; have xwr7 := Xw.c 7 rfl; have xmr0 := Xm.c 0 rfl; have xmr1 := Xm.c 1 rfl; have xmr2 := Xm.c 2 rfl; have xmr3 := Xm.c 3 rfl; have xmr4 := Xm.c 4 rfl; have xmr5 := Xm.c 5 rfl; have xmr6 := Xm.c 6 rfl; have xmr7 := Xm.c 7 rfl; have xor0 := Xo.c 0 rfl; have xor1 := Xo.c 1 rfl; have xor2 := Xo.c 2 rfl; have xor3 := Xo.c 3 rfl; have xor4 := Xo.c 4 rfl; have xor5 := Xo.c 5 rfl; have xor6 := Xo.c 6 rfl; have xor7 := Xo.c 7 rfl
        clear Xp Xq Xs Xt Xw Xm Xo
        go_wp2
        go_ret
        exact ⟨rfl, HB⟩
      · skip
        have xpr0 := Xp.c 0 rfl; have xpr1 := Xp.c 1 rfl; have xpr2 := Xp.c 2 rfl; have xpr3 := Xp.c 3 rfl; have xpr4 := Xp.c 4 rfl; have xpr5 := Xp.c 5 rfl; have xpr6 := Xp.c 6 rfl; have xpr7 := Xp.c 7 rfl; have xqr0 := Xq.c 0 rfl; have xqr1 := Xq.c 1 rfl; have xqr2 := Xq.c 2 rfl; have xqr3 := Xq.c 3 rfl; have xqr4 := Xq.c 4 rfl; have xqr5 := Xq.c 5 rfl; have xqr6 := Xq.c 6 rfl; have xqr7 := Xq.c 7 rfl; have xsr0 := Xs.c 0 rfl; have xsr1 := Xs.c 1 rfl; have xsr2 := Xs.c 2 rfl; have xsr3 := Xs.c 3 rfl; have xsr4 := Xs.c 4 rfl; have xsr5 := Xs.c 5 rfl; have xsr6 := Xs.c 6 rfl; have xsr7 := Xs.c 7 rfl; have xtr0 := Xt.c 0 rfl; have xtr1 := Xt.c 1 rfl; have xtr2 := Xt.c 2 rfl; have xtr3 := Xt.c 3 rfl; have xtr4 := Xt.c 4 rfl; have xtr5 := Xt.c 5 rfl; have xtr6 := Xt.c 6 rfl; have xtr7 := Xt.c 7 rfl; have xwr0 := Xw.c 0 rfl; have xwr1 := Xw.c 1 rfl; have xwr2 := Xw.c 2 rfl; have xwr3 := Xw.c 3 rfl; have xwr4 := Xw.c 4 rfl; have xwr5 := Xw.c 5 rfl; have xwr6 := Xw.c 6 rfl; have xwr7 := Xw.c 7 rfl; have xmr0 := Xm.c 0 rfl; have xmr1 := Xm.c 1 rfl; have xmr2 := Xm.c 2 rfl; have xmr3 := Xm.c 3 rfl; have xmr4 := Xm.c 4 rfl; have xmr5 := Xm.c 5 rfl; have xmr6 := Xm.c 6 rfl; have xmr7 := Xm.c 7 rfl; have xor0 := Xo.c 0 rfl; have xor1 := Xo.c 1 rfl; have xor2 := Xo.c 2 rfl; have xor3 := Xo.c 3 rfl; have xor4 := Xo.c 4 rfl; have xor5 := Xo.c 5 rfl; have xor6 := Xo.c 6 rfl; have xor7 := Xo.c 7 rfl
        go_wp2_with fail
        refine (SG _).mono ?_
        rintro e v6 ⟨rfl, hB⟩
        replace Xp := Xp.step hB
        replace Xq := Xq.step hB
        replace Xs := Xs.step hB
        replace Xt := Xt.step hB
        replace Xw := Xw.step hB
        replace Xm := Xm.step hB
        replace Xo := Xo.step hB
        replace HB := HB.trans (hB.mono HB.size)
        clear hB xpr0 xpr1 xpr2 xpr3 xpr4 xpr5 xpr6 xpr7 xqr0 xqr1 xqr2 xqr3 xqr4 xqr5 xqr6 xqr7 xsr0 xsr1 xsr2 xsr3 xsr4 xsr5 xsr6 xsr7 xtr0 xtr1 xtr2 xtr3 xtr4 xtr5 xtr6 xtr7 xwr0 xwr1 xwr2 xwr3 xwr4 xwr5 xwr6 xwr7 xmr0 xmr1 xmr2 xmr3 xmr4 xmr5 xmr6 xmr7 xor0 xor1 xor2 xor3 xor4 xor5 xor6 xor7
        by_cases hu : u = 0
        · have e0 : cmpI u 0 = 0 := by rw [hu]; rfl
          rw [e0]
          clear e0
          have xpr0 := Xp.c 0 rfl; have xpr1 := Xp.c 1 rfl; have xpr2 := Xp.c 2 rfl; have xpr3 := Xp.c 3 rfl; have xpr4 := Xp.c 4 rfl; have xpr5 := Xp.c 5 rfl; have xpr6 := Xp.c 6 rfl; have xpr7 := Xp.c 7 rfl; have xqr0 := Xq.c 0 rfl; have xqr1 := Xq.c 1 rfl; have xqr2 := Xq.c 2 rfl; have xqr3 := Xq.c 3 rfl; have xqr4 := Xq.c 4 rfl; have xqr5 := Xq.c 5 rfl; have xqr6 := Xq.c 6 rfl; have xqr7 := Xq.c 7 rfl; have xsr0 := Xs.c 0 rfl; have xsr1 := Xs.c 1 rfl; have xsr2 := Xs.c 2 rfl; have xsr3 := Xs.c 3 rfl; have xsr4 := Xs.c 4 rfl; have xsr5 := Xs.c 5 rfl; have xsr6 := Xs.c 6 rfl; have xsr7 := Xs.c 7 rfl; have xtr0 := Xt.c 0 rfl; have xtr1 := Xt.c 1 rfl; have xtr2 := Xt.c 2 rfl; have xtr3 := Xt.c 3 rfl; have xtr4 := Xt.c 4 rfl; have xtr5 := Xt.c 5 rfl; have xtr6 := Xt.c 6 rfl; have xtr7 := Xt.c 7 rfl; have xwr0 := Xw.c 0 rfl; have xwr1 := Xw.c 1 rfl; have xwr2 := Xw.c 2 rfl; have xwr3 := Xw.c 3 rfl; have xwr4 := Xw.c 4 rfl; have xwr5 := Xw.c 5 rfl; have xwr6 := Xw.c 6 rfl; have xwr7 := Xw.c 7 rfl; have xmr0 := Xm.c 0 rfl; have xmr1 := Xm.c 1 rfl; have xmr2 := Xm.c 2 rfl; have xmr3 := Xm.c 3 rfl; have xmr4 := Xm.c 4 rfl; have xmr5 := Xm.c 5 rfl; have xmr6 := Xm.c 6 rfl; have xmr7 := Xm.c 7 rfl; have xor0 := Xo.c 0 rfl; have xor1 := Xo.c 1 rfl; have xor2 := Xo.c 2 rfl; have xor3 := Xo.c 3 rfl; have xor4 := Xo.c 4 rfl; have xor5 := Xo.c 5 rfl; have xor6 := Xo.c 6 rfl; have xor7 := Xo.c 7 rfl
          clear Xp Xq Xs Xt Xw Xm Xo
          go_wp2
          go_ret
          exact ⟨rfl, HB⟩
        · have e0 : (cmpI u 0 == 0) = false := by
            rw [beq_eq_false_iff_ne]
            intro h
            exact hu (cmpI_z.1 h)
          obtain ⟨hD, hR⟩ := HM.out (by trivial) hu
          have DV := divZ_det P Q u v tP tQ tu tv
          have OK := okZ_det P Q tP tQ
          rw [hD] at DV
          rw [hR] at OK
          clear hD hR HM
          generalize cmpI u 0 = sg at *
          have xpr0 := Xp.c 0 rfl; have xpr1 := Xp.c 1 rfl; have xpr2 := Xp.c 2 rfl; have xpr3 := Xp.c 3 rfl; have xpr4 := Xp.c 4 rfl; have xpr5 := Xp.c 5 rfl; have xpr6 := Xp.c 6 rfl; have xpr7 := Xp.c 7 rfl; have xqr0 := Xq.c 0 rfl; have xqr1 := Xq.c 1 rfl; have xqr2 := Xq.c 2 rfl; have xqr3 := Xq.c 3 rfl; have xqr4 := Xq.c 4 rfl; have xqr5 := Xq.c 5 rfl; have xqr6 := Xq.c 6 rfl; have xqr7 := Xq.c 7 rfl; have xsr0 := Xs.c 0 rfl; have xsr1 := Xs.c 1 rfl; have xsr2 := Xs.c 2 rfl; have xsr3 := Xs.c 3 rfl; have xsr4 := Xs.c 4 rfl; have xsr5 := Xs.c 5 rfl; have xsr6 := Xs.c 6 rfl; have xsr7 := Xs.c 7 rfl; have xtr0 := Xt.c 0 rfl; have xtr1 := Xt.c 1 rfl; have xtr2 := Xt.c 2 rfl; have xtr3 := Xt.c 3 rfl; have xtr4 := Xt.c 4 rfl; have xtr5 := Xt.c 5 rfl; have xtr6 := Xt.c 6 rfl; have xtr7 := Xt.c 7 rfl; have xwr0 := Xw.c 0 rfl; have xwr1 := Xw.c 1 rfl; have xwr2 := Xw.c 2 rfl; have xwr3 := Xw.c 3 rfl; have xwr4 := Xw.c 4 rfl; have xwr5 := Xw.c 5 rfl; have xwr6 := Xw.c 6 rfl; have xwr7 := Xw.c 7 rfl; have xmr0 := Xm.c 0 rfl; have xmr1 := Xm.c 1 rfl; have xmr2 := Xm.c 2 rfl; have xmr3 := Xm.c 3 rfl; have xmr4 := Xm.c 4 rfl; have xmr5 := Xm.c 5 rfl; have xmr6 := Xm.c 6 rfl; have xmr7 := Xm.c 7 rfl; have xor0 := Xo.c 0 rfl; have xor1 := Xo.c 1 rfl; have xor2 := Xo.c 2 rfl; have xor3 := Xo.c 3 rfl; have xor4 := Xo.c 4 rfl; have xor5 := Xo.c 5 rfl; have xor6 := Xo.c 6 rfl; have xor7 := Xo.c 7 rfl
          go_wp2_with fail
          refine (DV _).mono ?_
          rintro e v7 ⟨rfl, hB⟩
          replace Xp := (Xp.step hB).alloc (.cells #[.int .u64 (ww3 x), .int .u64 (ww2 x), .int .u64 (ww1 x), .int .u64 (ww0 x), .int .u64 (ww3 y), .int .u64 (ww2 y), .int .u64 (ww1 y), .int .u64 (ww0 y)] 28)
          replace Xq := (Xq.step hB).alloc (.cells #[.int .u64 (ww3 x), .int .u64 (ww2 x), .int .u64 (ww1 x), .int .u64 (ww0 x), .int .u64 (ww3 y), .int .u64 (ww2 y), .int .u64 (ww1 y), .int .u64 (ww0 y)] 28)
          replace Xs := (Xs.step hB).alloc (.cells #[.int .u64 (ww3 x), .int .u64 (ww2 x), .int .u64 (ww1 x), .int .u64 (ww0 x), .int .u64 (ww3 y), .int .u64 (ww2 y), .int .u64 (ww1 y), .int .u64 (ww0 y)] 28)
          replace Xt := (Xt.step hB).alloc (.cells #[.int .u64 (ww3 x), .int .u64 (ww2 x), .int .u64 (ww1 x), .int .u64 (ww0 x), .int .u64 (ww3 y), .int .u64 (ww2 y), .int .u64 (ww1 y), .int .u64 (ww0 y)] 28)
          replace Xw := (Xw.step hB).alloc (.cells #[.int .u64 (ww3 x), .int .u64 (ww2 x), .int .u64 (ww1 x), .int .u64 (ww0 x), .int .u64 (ww3 y), .int .u64 (ww2 y), .int .u64 (ww1 y), .int .u64 (ww0 y)] 28)
          replace Xm := (Xm.step hB).alloc (.cells #[.int .u64 (ww3 x), .int .u64 (ww2 x), .int .u64 (ww1 x), .int .u64 (ww0 x), .int .u64 (ww3 y), .int .u64 (ww2 y), .int .u64 (ww1 y), .int .u64 (ww0 y)] 28)
          replace Xo := (Xo.step hB).alloc (.cells #[.int .u64 (ww3 x), .int .u64 (ww2 x), .int .u64 (ww1 x), .int .u64 (ww0 x), .int .u64 (ww3 y), .int .u64 (ww2 y), .int .u64 (ww1 y), .int .u64 (ww0 y)] 28)
          have Xd := Blk.new v7 [.int .u64 (ww3 x), .int .u64 (ww2 x), .int .u64 (ww1 x), .int .u64 (ww0 x), .int .u64 (ww3 y), .int .u64 (ww2 y), .int .u64 (ww1 y), .int .u64 (ww0 y)] 28 rfl
          replace HB := (HB.trans (hB.mono HB.size)).alloc (HB.trans (hB.mono HB.size)).size (.cells #[.int .u64 (ww3 x), .int .u64 (ww2 x), .int .u64 (ww1 x), .int .u64 (ww0 x), .int .u64 (ww3 y), .int .u64 (ww2 y), .int .u64 (ww1 y), .int .u64 (ww0 y)] 28)
          clear hB xpr0 xpr1 xpr2 xpr3 xpr4 xpr5 xpr6 xpr7 xqr0 xqr1 xqr2 xqr3 xqr4 xqr5 xqr6 xqr7 xsr0 xsr1 xsr2 xsr3 xsr4 xsr5 xsr6 xsr7 xtr0 xtr1 xtr2 xtr3 xtr4 xtr5 xtr6 xtr7 xwr0 xwr1 xwr2 xwr3 xwr4 xwr5 xwr6 xwr7 xmr0 xmr1 xmr2 xmr3 xmr4 xmr5 xmr6 xmr7 xor0 xor1 xor2 xor3 xor4 xor5 xor6 xor7
          have xpr0 := Xp.c 0 rfl; have xpr1 := Xp.c 1 rfl; have xpr2 := Xp.c 2 rfl; have xpr3 := Xp.c 3 rfl; have xpr4 := Xp.c 4 rfl; have xpr5 := Xp.c 5 rfl; have xpr6 := Xp.c 6 rfl; have xpr7 := Xp.c 7 rfl; have xqr0 := Xq.c 0 rfl; have xqr1 := Xq.c 1 rfl; have xqr2 := Xq.c 2 rfl; have xqr3 := Xq.c 3 rfl; have xqr4 := Xq.c 4 rfl; have xqr5 := Xq.c 5 rfl; have xqr6 := Xq.c 6 rfl; have xqr7 := Xq.c 7 rfl; have xsr0 := Xs.c 0 rfl; have xsr1 := Xs.c 1 rfl; have xsr2 := Xs.c 2 rfl; have xsr3 := Xs.c 3 rfl; have xsr4 := Xs.c 4 rfl; have xsr5 := Xs.c 5 rfl; have xsr6 := Xs.c 6 rfl; have xsr7 := Xs.c 7 rfl; have xtr0 := Xt.c 0 rfl; have xtr1 := Xt.c 1 rfl; have xtr2 := Xt.c 2 rfl; have xtr3 := Xt.c 3 rfl; have xtr4 := Xt.c 4 rfl; have xtr5 := Xt.c 5 rfl; have xtr6 := Xt.c 6 rfl; have xtr7 := Xt.c 7 rfl; have xwr0 := Xw.c 0 rfl; have xwr1 := Xw.c 1 rfl; have xwr2 := Xw.c 2 rfl; have xwr3 := Xw.c 3 rfl; have xwr4 := Xw.c 4 rfl; have xwr5 := Xw.c 5 rfl; have xwr6 := Xw.c 6 rfl; have xwr7 := Xw.c 7 rfl; have xmr0 := Xm.c 0 rfl; have xmr1 := Xm.c 1 rfl; have xmr2 := Xm.c 2 rfl; have xmr3 := Xm.c 3 rfl; have xmr4 := Xm.c 4 rfl; have xmr5 := Xm.c 5 rfl; have xmr6 := Xm.c 6 rfl; have xmr7 := Xm.c 7 rfl; have xor0 := Xo.c 0 rfl; have xor1 := Xo.c 1 rfl; have xor2 := Xo.c 2 rfl; have xor3 := Xo.c 3 rfl; have xor4 := Xo.c 4 rfl; have xor5 := Xo.c 5 rfl; have xor6 := Xo.c 6 rfl; have xor7 := Xo.c 7 rfl; have xdr0 := Xd.c 0 rfl; have xdr1 := Xd.c 1 rfl; have xdr2 := Xd.c 2 rfl; have xdr3 := Xd.c 3 rfl; have xdr4 := Xd.c 4 rfl; have xdr5 := Xd.c 5 rfl; have xdr6 := Xd.c 6 rfl; have xdr7 := Xd.c 7 rfl
          go_wp2_with fail
          refine (OK _).mono ?_
          rintro e v8 ⟨rfl, hB⟩
          replace Xp := Xp.step hB
          replace Xq := Xq.step hB
          replace Xs := Xs.step hB
          replace Xt := Xt.step hB
          replace Xw := Xw.step hB
          replace Xm := Xm.step hB
          replace Xo := Xo.step hB
          replace Xd := Xd.step hB
          replace HB := HB.trans (hB.mono HB.size)
          clear hB xpr0 xpr1 xpr2 xpr3 xpr4 xpr5 xpr6 xpr7 xqr0 xqr1 xqr2 xqr3 xqr4 xqr5 xqr6 xqr7 xsr0 xsr1 xsr2 xsr3 xsr4 xsr5 xsr6 xsr7 xtr0 xtr1 xtr2 xtr3 xtr4 xtr5 xtr6 xtr7 xwr0 xwr1 xwr2 xwr3 xwr4 xwr5 xwr6 xwr7 xmr0 xmr1 xmr2 xmr3 xmr4 xmr5 xmr6 xmr7 xor0 xor1 xor2 xor3 xor4 xor5 xor6 xor7 xdr0 xdr1 xdr2 xdr3 xdr4 xdr5 xdr6 xdr7
          have xpr0 := Xp.c 0 rfl; have xpr1 := Xp.c 1 rfl; have xpr2 := Xp.c 2 rfl; have xpr3 := Xp.c 3 rfl; have xpr4 := Xp.c 4 rfl; have xpr5 := Xp.c 5 rfl; have xpr6 := Xp.c 6 rfl; have xpr7 := Xp.c 7 rfl; have xqr0 := Xq.c 0 rfl; have xqr1 := Xq.c 1 rfl; have xqr2 := Xq.c 2 rfl; have xqr3 := Xq.c 3 rfl; have xqr4 := Xq.c 4 rfl; have xqr5 := Xq.c 5 rfl; have xqr6 := Xq.c 6 rfl; have xqr7 := Xq.c 7 rfl; have xsr0 := Xs.c 0 rfl; have xsr1 := Xs.c 1 rfl; have xsr2 := Xs.c 2 rfl; have xsr3 := Xs.c 3 rfl; have xsr4 := Xs.c 4 rfl; have xsr5 := Xs.c 5 rfl; have xsr6 := Xs.c 6 rfl; have xsr7 := Xs.c 7 rfl; have xtr0 := Xt.c 0 rfl; have xtr1 := Xt.c 1 rfl; have xtr2 := Xt.c 2 rfl; have xtr3 := Xt.c 3 rfl; have xtr4 := Xt.c 4 rfl; have xtr5 := Xt.c 5 rfl; have xtr6 := Xt.c 6 rfl; have xtr7 := Xt.c 7 rfl; have xwr0 := Xw.c 0 rfl; have xwr1 := Xw.c 1 rfl; have xwr2 := Xw.c 2 rfl; have xwr3 := Xw.c 3 rfl; have xwr4 := Xw.c 4 rfl; have xwr5 := Xw.c 5 rfl; have xwr6 := Xw.c 6 rfl; have xwr7 := Xw.c 7 rfl; have xmr0 := Xm.c 0 rfl; have xmr1 := Xm.c 1 rfl; have xmr2 := Xm.c 2 rfl; have xmr3 := Xm.c 3 rfl; have xmr4 := Xm.c 4 rfl; have xmr5 := Xm.c 5 rfl; have xmr6 := Xm.c 6 rfl; have xmr7 := Xm.c 7 rfl; have xor0 := Xo.c 0 rfl; have xor1 := Xo.c 1 rfl; have xor2 := Xo.c 2 rfl; have xor3 := Xo.c 3 rfl; have xor4 := Xo.c 4 rfl; have xor5 := Xo.c 5 rfl; have xor6 := Xo.c 6 rfl; have xor7 := Xo.c 7 rfl; have xdr0 := Xd.c 0 rfl; have xdr1 := Xd.c 1 rfl; have xdr2 := Xd.c 2 rfl; have xdr3 := Xd.c 3 rfl; have xdr4 := Xd.c 4 rfl; have xdr5 := Xd.c 5 rfl; have xdr6 := Xd.c 6 rfl; have xdr7 := Xd.c 7 rfl
          clear Xp Xq Xs Xt Xw Xm Xo Xd
          go_wp2
          go_ret
          exact ⟨rfl, HB⟩
    · have hB2 := HS rfl
      clear HS
      have NG := negZ_det u tu
      obtain ⟨m, gd, hm, tm, hmz⟩ := tell_ex (-u)
      rw [hm] at NG
      clear hm
      have xpr0 := Xp.c 0 rfl; have xpr1 := Xp.c 1 rfl; have xpr2 := Xp.c 2 rfl; have xpr3 := Xp.c 3 rfl; have xpr4 := Xp.c 4 rfl; have xpr5 := Xp.c 5 rfl; have xpr6 := Xp.c 6 rfl; have xpr7 := Xp.c 7 rfl; have xqr0 := Xq.c 0 rfl; have xqr1 := Xq.c 1 rfl; have xqr2 := Xq.c 2 rfl; have xqr3 := Xq.c 3 rfl; have xqr4 := Xq.c 4 rfl; have xqr5 := Xq.c 5 rfl; have xqr6 := Xq.c 6 rfl; have xqr7 := Xq.c 7 rfl; have xsr0 := Xs.c 0 rfl; have xsr1 := Xs.c 1 rfl; have xsr2 := Xs.c 2 rfl; have xsr3 := Xs.c 3 rfl; have xsr4 := Xs.c 4 rfl; have xsr5 := Xs.c 5 rfl; have xsr6 := Xs.c 6 rfl; have xsr7 := Xs.c 7 rfl; have xtr0 := Xt.c 0 rfl; have xtr1 := Xt.c 1 rfl; have xtr2 := Xt.c 2 rfl; have xtr3 := Xt.c 3 rfl; have xtr4 := Xt.c 4 rfl; have xtr5 := Xt.c 5 rfl; have xtr6 := Xt.c 6 rfl; have xtr7 := Xt.c 7 rfl; have xwr0 := Xw.c 0 rfl; have xwr1 := Xw.c 1 rfl; have xwr2 := Xw.c 2 rfl; have xwr3 := Xw.c 3 rfl; have xwr4 := Xw.c 4 rfl; have xwr5 := Xw.c 5 rfl; have xwr6 := Xw.c 6 rfl; have xwr7 := Xw.c 7 rfl
      go_wp2_with fail
      refine (NG _).mono ?_
      rintro e v9 ⟨rfl, hB⟩
      replace Xp := (Xp.step hB).alloc (.cells #[.int .u64 (ww3 m), .int .u64 (ww2 m), .int .u64 (ww1 m), .int .u64 (ww0 m)] 26)
      replace Xq := (Xq.step hB).alloc (.cells #[.int .u64 (ww3 m), .int .u64 (ww2 m), .int .u64 (ww1 m), .int .u64 (ww0 m)] 26)
      replace Xs := (Xs.step hB).alloc (.cells #[.int .u64 (ww3 m), .int .u64 (ww2 m), .int .u64 (ww1 m), .int .u64 (ww0 m)] 26)
      replace Xt := (Xt.step hB).alloc (.cells #[.int .u64 (ww3 m), .int .u64 (ww2 m), .int .u64 (ww1 m), .int .u64 (ww0 m)] 26)
      replace Xw := (Xw.step hB).alloc (.cells #[.int .u64 (ww3 m), .int .u64 (ww2 m), .int .u64 (ww1 m), .int .u64 (ww0 m)] 26)
      have Xn := Blk.new v9 [.int .u64 (ww3 m), .int .u64 (ww2 m), .int .u64 (ww1 m), .int .u64 (ww0 m)] 26 rfl
      replace HB := (HB.trans (hB.mono HB.size)).alloc (HB.trans (hB.mono HB.size)).size (.cells #[.int .u64 (ww3 m), .int .u64 (ww2 m), .int .u64 (ww1 m), .int .u64 (ww0 m)] 26)
      clear hB xpr0 xpr1 xpr2 xpr3 xpr4 xpr5 xpr6 xpr7 xqr0 xqr1 xqr2 xqr3 xqr4 xqr5 xqr6 xqr7 xsr0 xsr1 xsr2 xsr3 xsr4 xsr5 xsr6 xsr7 xtr0 xtr1 xtr2 xtr3 xtr4 xtr5 xtr6 xtr7 xwr0 xwr1 xwr2 xwr3 xwr4 xwr5 xwr6 xwr7
      clear NG
      cases gd
      · clear hB2 hmz
        have xpr0 := Xp.c 0 rfl; have xpr1 := Xp.c 1 rfl; have xpr2 := Xp.c 2 rfl; have xpr3 := Xp.c 3 rfl; have xpr4 := Xp.c 4 rfl; have xpr5 := Xp.c 5 rfl; have xpr6 := Xp.c 6 rfl; have xpr7 := Xp.c 7 rfl; have xqr0 := Xq.c 0 rfl; have xqr1 := Xq.c 1 rfl; have xqr2 := Xq.c 2 rfl; have xqr3 := Xq.c 3 rfl; have xqr4 := Xq.c 4 rfl; have xqr5 := Xq.c 5 rfl; have xqr6 := Xq.c 6 rfl; have xqr7 := Xq.c 7 rfl; have xsr0 := Xs.c 0 rfl; have xsr1 := Xs.c 1 rfl; have xsr2 := Xs.c 2 rfl; have xsr3 := Xs.c 3 rfl; have xsr4 := Xs.c 4 rfl; have xsr5 := Xs.c 5 rfl; have xsr6 := Xs.c 6 rfl; have xsr7 := Xs.c 7 rfl; have xtr0 := Xt.c 0 rfl; have xtr1 := Xt.c 1 rfl; have xtr2 := Xt.c 2 rfl; have xtr3 := Xt.c 3 rfl; have xtr4 := Xt.c 4 rfl; have xtr5 := Xt.c 5 rfl; have xtr6 := Xt.c 6 rfl; have xtr7 := Xt.c 7 rfl; have xwr0 := Xw.c 0 rfl; have xwr1 := Xw.c 1 rfl; have xwr2 := Xw.c 2 rfl; have xwr3 := Xw.c 3 rfl; have xwr4 := Xw.c 4 rfl; have xwr5 := Xw.c 5 rfl; have xwr6 := Xw.c 6 rfl; have xwr7 := Xw.c 7 rfl; have xnr0 := Xn.c 0 rfl; have xnr1 := Xn.c 1 rfl; have xnr2 := Xn.c 2 rfl; have xnr3 := Xn.c 3 rfl
        go_wp2_with fail
        refine (M0 _).mono ?_
        rintro e v10 ⟨rfl, hB⟩
        replace Xp := (Xp.step hB).alloc (.cells #[.int .u64 (ww3 P), .int .u64 (ww2 P), .int .u64 (ww1 P), .int .u64 (ww0 P), .int .u64 (ww3 Q), .int .u64 (ww2 Q), .int .u64 (ww1 Q), .int .u64 (ww0 Q)] 28)
        replace Xq := (Xq.step hB).alloc (.cells #[.int .u64 (ww3 P), .int .u64 (ww2 P), .int .u64 (ww1 P), .int .u64 (ww0 P), .int .u64 (ww3 Q), .int .u64 (ww2 Q), .int .u64 (ww1 Q), .int .u64 (ww0 Q)] 28)
        replace Xs := (Xs.step hB).alloc (.cells #[.int .u64 (ww3 P), .int .u64 (ww2 P), .int .u64 (ww1 P), .int .u64 (ww0 P), .int .u64 (ww3 Q), .int .u64 (ww2 Q), .int .u64 (ww1 Q), .int .u64 (ww0 Q)] 28)
        replace Xt := (Xt.step hB).alloc (.cells #[.int .u64 (ww3 P), .int .u64 (ww2 P), .int .u64 (ww1 P), .int .u64 (ww0 P), .int .u64 (ww3 Q), .int .u64 (ww2 Q), .int .u64 (ww1 Q), .int .u64 (ww0 Q)] 28)
        replace Xw := (Xw.step hB).alloc (.cells #[.int .u64 (ww3 P), .int .u64 (ww2 P), .int .u64 (ww1 P), .int .u64 (ww0 P), .int .u64 (ww3 Q), .int .u64 (ww2 Q), .int .u64 (ww1 Q), .int .u64 (ww0 Q)] 28)
        replace Xn := (Xn.step hB).alloc (.cells #[.int .u64 (ww3 P), .int .u64 (ww2 P), .int .u64 (ww1 P), .int .u64 (ww0 P), .int .u64 (ww3 Q), .int .u64 (ww2 Q), .int .u64 (ww1 Q), .int .u64 (ww0 Q)] 28)
        have Xm := Blk.new v10 [.int .u64 (ww3 P), .int .u64 (ww2 P), .int .u64 (ww1 P), .int .u64 (ww0 P), .int .u64 (ww3 Q), .int .u64 (ww2 Q), .int .u64 (ww1 Q), .int .u64 (ww0 Q)] 28 rfl
        replace HB := (HB.trans (hB.mono HB.size)).alloc (HB.trans (hB.mono HB.size)).size (.cells #[.int .u64 (ww3 P), .int .u64 (ww2 P), .int .u64 (ww1 P), .int .u64 (ww0 P), .int .u64 (ww3 Q), .int .u64 (ww2 Q), .int .u64 (ww1 Q), .int .u64 (ww0 Q)] 28)
        clear hB xpr0 xpr1 xpr2 xpr3 xpr4 xpr5 xpr6 xpr7 xqr0 xqr1 xqr2 xqr3 xqr4 xqr5 xqr6 xqr7 xsr0 xsr1 xsr2 xsr3 xsr4 xsr5 xsr6 xsr7 xtr0 xtr1 xtr2 xtr3 xtr4 xtr5 xtr6 xtr7 xwr0 xwr1 xwr2 xwr3 xwr4 xwr5 xwr6 xwr7 xnr0 xnr1 xnr2 xnr3
        have xpr0 := Xp.c 0 rfl; have xpr1 := Xp.c 1 rfl; have xpr2 := Xp.c 2 rfl; have xpr3 := Xp.c 3 rfl; have xpr4 := Xp.c 4 rfl; have xpr5 := Xp.c 5 rfl; have xpr6 := Xp.c 6 rfl; have xpr7 := Xp.c 7 rfl; have xqr0 := Xq.c 0 rfl; have xqr1 := Xq.c 1 rfl; have xqr2 := Xq.c 2 rfl; have xqr3 := Xq.c 3 rfl; have xqr4 := Xq.c 4 rfl; have xqr5 := Xq.c 5 rfl; have xqr6 := Xq.c 6 rfl; have xqr7 := Xq.c 7 rfl; have xsr0 := Xs.c 0 rfl; have xsr1 := Xs.c 1 rfl; have xsr2 := Xs.c 2 rfl; have xsr3 := Xs.c 3 rfl; have xsr4 := Xs.c 4 rfl; have xsr5 := Xs.c 5 rfl; have xsr6 := Xs.c 6 rfl; have xsr7 := Xs.c 7 rfl; have xtr0 := Xt.c 0 rfl; have xtr1 := Xt.c 1 rfl; have xtr2 := Xt.c 2 rfl; have xtr3 := Xt.c 3 rfl; have xtr4 := Xt.c 4 rfl; have xtr5 := Xt.c 5 rfl; have xtr6 := Xt.c 6 rfl; have xtr7 := Xt.c 7 rfl; have xwr0 := Xw.c 0 rfl; have xwr1 := Xw.c 1 rfl; have xwr2 := Xw.c 2 rfl; have xwr3 := Xw.c 3 rfl; have xwr4 := Xw.c 4 rfl; have xwr5 := Xw.c 5 rfl; have xwr6 := Xw.c 6 rfl; have xwr7 := Xw.c 7 rfl; have xnr0 := Xn.c 0 rfl; have xnr1 := Xn.c 1 rfl; have xnr2 := Xn.c 2 rfl; have xnr3 := Xn.c 3 rfl; have xmr0 := Xm.c 0 rfl; have xmr1 := Xm.c 1 rfl; have xmr2 := Xm.c 2 rfl; have xmr3 := Xm.c 3 rfl; have xmr4 := Xm.c 4 rfl; have xmr5 := Xm.c 5 rfl; have xmr6 := Xm.c 6 rfl; have xmr7 := Xm.c 7 rfl
        go_wp2_with fail
        refine (M1 _).mono ?_
        rintro e v11 ⟨rfl, hB⟩
        replace Xp := (Xp.step hB).alloc (.cells #[.int .u64 (ww3 P), .int .u64 (ww2 P), .int .u64 (ww1 P), .int .u64 (ww0 P), .int .u64 (ww3 Q), .int .u64 (ww2 Q), .int .u64 (ww1 Q), .int .u64 (ww0 Q)] 28)
        replace Xq := (Xq.step hB).alloc (.cells #[.int .u64 (ww3 P), .int .u64 (ww2 P), .int .u64 (ww1 P), .int .u64 (ww0 P), .int .u64 (ww3 Q), .int .u64 (ww2 Q), .int .u64 (ww1 Q), .int .u64 (ww0 Q)] 28)
        replace Xs := (Xs.step hB).alloc (.cells #[.int .u64 (ww3 P), .int .u64 (ww2 P), .int .u64 (ww1 P), .int .u64 (ww0 P), .int .u64 (ww3 Q), .int .u64 (ww2 Q), .int .u64 (ww1 Q), .int .u64 (ww0 Q)] 28)
        replace Xt := (Xt.step hB).alloc (.cells #[.int .u64 (ww3 P), .int .u64 (ww2 P), .int .u64 (ww1 P), .int .u64 (ww0 P), .int .u64 (ww3 Q), .int .u64 (ww2 Q), .int .u64 (ww1 Q), .int .u64 (ww0 Q)] 28)
        replace Xw := (Xw.step hB).alloc (.cells #[.int .u64 (ww3 P), .int .u64 (ww2 P), .int .u64 (ww1 P), .int .u64 (ww0 P), .int .u64 (ww3 Q), .int .u64 (ww2 Q), .int .u64 (ww1 Q), .int .u64 (ww0 Q)] 28)
        replace Xn := (Xn.step hB).alloc (.cells #[.int .u64 (ww3 P), .int .u64 (ww2 P), .int .u64 (ww1 P), .int .u64 (ww0 P), .int .u64 (ww3 Q), .int .u64 (ww2 Q), .int .u64 (ww1 Q), .int .u64 (ww0 Q)] 28)
        replace Xm := (Xm.step hB).alloc (.cells #[.int .u64 (ww3 P), .int .u64 (ww2 P), .int .u64 (ww1 P), .int .u64 (ww0 P), .int .u64 (ww3 Q), .int .u64 (ww2 Q), .int .u64 (ww1 Q), .int .u64 (ww0 Q)] 28)
        have Xo := Blk.new v11 [.int .u64 (ww3 P), .int .u64 (ww2 P), .int .u64 (ww1 P), .int .u64 (ww0 P), .int .u64 (ww3 Q), .int .u64 (ww2 Q), .int .u64 (ww1 Q), .int .u64 (ww0 Q)] 28 rfl
        replace HB := (HB.trans (hB.mono HB.size)).alloc (HB.trans (hB.mono HB.size)).size (.cells #[.int .u64 (ww3 P), .int .u64 (ww2 P), .int .u64 (ww1 P), .int .u64 (ww0 P), .int .u64 (ww3 Q), .int .u64 (ww2 Q), .int .u64 (ww1 Q), .int .u64 (ww0 Q)] 28)
        clear hB xpr0 xpr1 xpr2 xpr3 xpr4 xpr5 xpr6 xpr7 xqr0 xqr1 xqr2 xqr3 xqr4 xqr5 xqr6 xqr7 xsr0 xsr1 xsr2 xsr3 xsr4 xsr5 xsr6 xsr7 xtr0 xtr1 xtr2 xtr3 xtr4 xtr5 xtr6 xtr7 xwr0 xwr1 xwr2 xwr3 xwr4 xwr5 xwr6 xwr7 xnr0 xnr1 xnr2 xnr3 xmr0 xmr1 xmr2 xmr3 xmr4 xmr5 xmr6 xmr7
        cases ok2
        · skip
          have xpr0 := Xp.c 0 rfl; have xpr1 := Xp.c 1 rfl; have xpr2 := Xp.c 2 rfl; have xpr3 := Xp.c 3 rfl; have xpr4 := Xp.c 4 rfl; have xpr5 := Xp.c 5 rfl; have xpr6 := Xp.c 6 rfl; have xpr7 := Xp.c 7 rfl; have xqr0 := Xq.c 0 rfl; have xqr1 := Xq.c 1 rfl; have xqr2 := Xq.c 2 rfl; have xqr3 := Xq.c 3 rfl; have xqr4 := Xq.c 4 rfl; have xqr5 := Xq.c 5 rfl; have xqr6 := Xq.c 6 rfl; have xqr7 := Xq.c 7 rfl; have xsr0 := Xs.c 0 rfl; have xsr1 := Xs.c 1 rfl; have xsr2 := Xs.c 2 rfl; have xsr3 := Xs.c 3 rfl; have xsr4 := Xs.c 4 rfl; have xsr5 := Xs.c 5 rfl; have xsr6 := Xs.c 6 rfl; have xsr7 := Xs.c 7 rfl; have xtr0 := Xt.c 0 rfl; have xtr1 := Xt.c 1 rfl; have xtr2 := Xt.c 2 rfl; have xtr3 := Xt.c 3 rfl; have xtr4 := Xt.c 4 rfl; have xtr5 := Xt.c 5 rfl; have xtr6 := Xt.c 6 rfl; have xtr7 := Xt.c 7 rfl; have xwr0 := Xw.c 0 rfl; have xwr1 := Xw.c 1 rfl; have xwr2 := Xw.c 2 rfl; have xwr3 := Xw.c 3 rfl; have xwr4 := Xw.c 4 rfl; have xwr5 := Xw.c 5 rfl; have xwr6 := Xw.c 6 rfl; have xwr7 := Xw.c 7 rfl; have xnr0 := Xn.c 0 rfl; have xnr1 := Xn.c 1 rfl; have xnr2 := Xn.c 2 rfl; have xnr3 := Xn.c 3 rfl; have xmr0 := Xm.c 0 rfl; have xmr1 := Xm.c 1 rfl; have xmr2 := Xm.c 2 rfl; have xmr3 := Xm.c 3 rfl; have xmr4 := Xm.c 4 rfl; have xmr5 := Xm.c 5 rfl; have xmr6 := Xm.c 6 rfl; have xmr7 := Xm.c 7 rfl; have xor0 := Xo.c 0 rfl; have xor1 := Xo.c 1 rfl; have xor2 := Xo.c 2 rfl; have xor3 := Xo.c 3 rfl; have xor4 := Xo.c 4 rfl; have xor5 := Xo.c 5 rfl; have xor6 := Xo.c 6 rfl; have xor7 := Xo.c 7 rfl
          clear Xp Xq Xs Xt Xw Xn Xm Xo
          go_wp2
          go_ret
          exact ⟨rfl, HB⟩
        · skip
          have xpr0 := Xp.c 0 rfl; have xpr1 := Xp.c 1 rfl; have xpr2 := Xp.c 2 rfl; have xpr3 := Xp.c 3 rfl; have xpr4 := Xp.c 4 rfl; have xpr5 := Xp.c 5 rfl; have xpr6 := Xp.c 6 rfl; have xpr7 := Xp.c 7 rfl; have xqr0 := Xq.c 0 rfl; have xqr1 := Xq.c 1 rfl; have xqr2 := Xq.c 2 rfl; have xqr3 := Xq.c 3 rfl; have xqr4 := Xq.c 4 rfl; have xqr5 := Xq.c 5 rfl; have xqr6 := Xq.c 6 rfl; have xqr7 := Xq.c 7 rfl; have xsr0 := Xs.c 0 rfl; have xsr1 := Xs.c 1 rfl; have xsr2 := Xs.c 2 rfl; have xsr3 := Xs.c 3 rfl; have xsr4 := Xs.c 4 rfl; have xsr5 := Xs.c 5 rfl; have xsr6 := Xs.c 6 rfl; have xsr7 := Xs.c 7 rfl; have xtr0 := Xt.c 0 rfl; have xtr1 := Xt.c 1 rfl; have xtr2 := Xt.c 2 rfl; have xtr3 := Xt.c 3 rfl; have xtr4 := Xt.c 4 rfl; have xtr5 := Xt.c 5 rfl; have xtr6 := Xt.c 6 rfl; have xtr7 := Xt.c 7 rfl; have xwr0 := Xw.c 0 rfl; have xwr1 := Xw.c 1 rfl; have xwr2 := Xw.c 2 rfl; have xwr3 := Xw.c 3 rfl; have xwr4 := Xw.c 4 rfl; have xwr5 := Xw.c 5 rfl; have xwr6 := Xw.c 6 rfl; have xwr7 := Xw.c 7 rfl; have xnr0 := Xn.c 0 rfl; have xnr1 := Xn.c 1 rfl; have xnr2 := Xn.c 2 rfl; have xnr3 := Xn.c 3 rfl; have xmr0 := Xm.c 0 rfl; have xmr1 := Xm.c 1 rfl; have xmr2 := Xm.c 2 rfl; have xmr3 := Xm.c 3 rfl; have xmr4 := Xm.c 4 rfl; have xmr5 := Xm.c 5 rfl; have xmr6 := Xm.c 6 rfl; have xmr7 := Xm.c 7 rfl; have xor0 := Xo.c 0 rfl; have xor1 := Xo.c 1 rfl; have xor2 := Xo.c 2 rfl; have xor3 := Xo.c 3 rfl; have xor4 := Xo.c 4 rfl; have xor5 := Xo.c 5 rfl; have xor6 := Xo.c 6 rfl; have xor7 := Xo.c 7 rfl
          go_wp2_with fail
          refine (SG _).mono ?_
          rintro e v12 ⟨rfl, hB⟩
          replace Xp := Xp.step hB
          replace Xq := Xq.step hB
          replace Xs := Xs.step hB
          replace Xt := Xt.step hB
          replace Xw := Xw.step hB
          replace Xn := Xn.step hB
          replace Xm := Xm.step hB
          replace Xo := Xo.step hB
          replace HB := HB.trans (hB.mono HB.size)
          clear hB xpr0 xpr1 xpr2 xpr3 xpr4 xpr5 xpr6 xpr7 xqr0 xqr1 xqr2 xqr3 xqr4 xqr5 xqr6 xqr7 xsr0 xsr1 xsr2 xsr3 xsr4 xsr5 xsr6 xsr7 xtr0 xtr1 xtr2 xtr3 xtr4 xtr5 xtr6 xtr7 xwr0 xwr1 xwr2 xwr3 xwr4 xwr5 xwr6 xwr7 xnr0 xnr1 xnr2 xnr3 xmr0 xmr1 xmr2 xmr3 xmr4 xmr5 xmr6 xmr7 xor0 xor1 xor2 xor3 xor4 xor5 xor6 xor7
          by_cases hu : u = 0
          · have e0 : cmpI u 0 = 0 := by rw [hu]; rfl
            rw [e0]
            clear e0
            have xpr0 := Xp.c 0 rfl; have xpr1 := Xp.c 1 rfl; have xpr2 := Xp.c 2 rfl; have xpr3 := Xp.c 3 rfl; have xpr4 := Xp.c 4 rfl; have xpr5 := Xp.c 5 rfl; have xpr6 := Xp.c 6 rfl; have xpr7 := Xp.c 7 rfl; have xqr0 := Xq.c 0 rfl; have xqr1 := Xq.c 1 rfl; have xqr2 := Xq.c 2 rfl; have xqr3 := Xq.c 3 rfl; have xqr4 := Xq.c 4 rfl; have xqr5 := Xq.c 5 rfl; have xqr6 := Xq.c 6 rfl; have xqr7 := Xq.c 7 rfl; have xsr0 := Xs.c 0 rfl; have xsr1 := Xs.c 1 rfl; have xsr2 := Xs.c 2 rfl; have xsr3 := Xs.c 3 rfl; have xsr4 := Xs.c 4 rfl; have xsr5 := Xs.c 5 rfl; have xsr6 := Xs.c 6 rfl; have xsr7 := Xs.c 7 rfl; have xtr0 := Xt.c 0 rfl; have xtr1 := Xt.c 1 rfl; have xtr2 := Xt.c 2 rfl; have xtr3 := Xt.c 3 rfl; have xtr4 := Xt.c 4 rfl; have xtr5 := Xt.c 5 rfl; have xtr6 := Xt.c 6 rfl; have xtr7 := Xt.c 7 rfl; have xwr0 := Xw.c 0 rfl; have xwr1 := Xw.c 1 rfl; have xwr2 := Xw.c 2 rfl; have xwr3 := Xw.c 3 rfl; have xwr4 := Xw.c 4 rfl; have xwr5 := Xw.c 5 rfl; have xwr6 := Xw.c 6 rfl; have xwr7 := Xw.c 7 rfl; have xnr0 := Xn.c 0 rfl; have xnr1 := Xn.c 1 rfl; have xnr2 := Xn.c 2 rfl; have xnr3 := Xn.c 3 rfl; have xmr0 := Xm.c 0 rfl; have xmr1 := Xm.c 1 rfl; have xmr2 := Xm.c 2 rfl; have xmr3 := Xm.c 3 rfl; have xmr4 := Xm.c 4 rfl; have xmr5 := Xm.c 5 rfl; have xmr6 := Xm.c 6 rfl; have xmr7 := Xm.c 7 rfl; have xor0 := Xo.c 0 rfl; have xor1 := Xo.c 1 rfl; have xor2 := Xo.c 2 rfl; have xor3 := Xo.c 3 rfl; have xor4 := Xo.c 4 rfl; have xor5 := Xo.c 5 rfl; have xor6 := Xo.c 6 rfl; have xor7 := Xo.c 7 rfl
            clear Xp Xq Xs Xt Xw Xn Xm Xo
            go_wp2
            go_ret
            exact ⟨rfl, HB⟩
          · have e0 : (cmpI u 0 == 0) = false := by
              rw [beq_eq_false_iff_ne]
              intro h
              exact hu (cmpI_z.1 h)
            obtain ⟨hD, hR⟩ := HM.out (by trivial) hu
            have DV := divZ_det P Q u v tP tQ tu tv
            have OK := okZ_det P Q tP tQ
            rw [hD] at DV
            rw [hR] at OK
            clear hD hR HM
            generalize cmpI u 0 = sg at *
            have xpr0 := Xp.c 0 rfl; have xpr1 := Xp.c 1 rfl; have xpr2 := Xp.c 2 rfl; have xpr3 := Xp.c 3 rfl; have xpr4 := Xp.c 4 rfl; have xpr5 := Xp.c 5 rfl; have xpr6 := Xp.c 6 rfl; have xpr7 := Xp.c 7 rfl; have xqr0 := Xq.c 0 rfl; have xqr1 := Xq.c 1 rfl; have xqr2 := Xq.c 2 rfl; have xqr3 := Xq.c 3 rfl; have xqr4 := Xq.c 4 rfl; have xqr5 := Xq.c 5 rfl; have xqr6 := Xq.c 6 rfl; have xqr7 := Xq.c 7 rfl; have xsr0 := Xs.c 0 rfl; have xsr1 := Xs.c 1 rfl; have xsr2 := Xs.c 2 rfl; have xsr3 := Xs.c 3 rfl; have xsr4 := Xs.c 4 rfl; have xsr5 := Xs.c 5 rfl; have xsr6 := Xs.c 6 rfl; have xsr7 := Xs.c 7 rfl; have xtr0 := Xt.c 0 rfl; have xtr1 := Xt.c 1 rfl; have xtr2 := Xt.c 2 rfl; have xtr3 := Xt.c 3 rfl; have xtr4 := Xt.c 4 rfl; have xtr5 := Xt.c 5 rfl; have xtr6 := Xt.c 6 rfl; have xtr7 := Xt.c 7 rfl; have xwr0 := Xw.c 0 rfl; have xwr1 := Xw.c 1 rfl; have xwr2 := Xw.c 2 rfl; have xwr3 := Xw.c 3 rfl; have xwr4 := Xw.c 4 rfl; have xwr5 := Xw.c 5 rfl; have xwr6 := Xw.c 6 rfl; have xwr7 := Xw.c 7 rfl; have xnr0 := Xn.c 0 rfl; have xnr1 := Xn.c 1 rfl; have xnr2 := Xn.c 2 rfl; have xnr3 := Xn.c 3 rfl; have xmr0 := Xm.c 0 rfl; have xmr1 := Xm.c 1 rfl; have xmr2 := Xm.c 2 rfl; have xmr3 := Xm.c 3 rfl; have xmr4 := Xm.c 4 rfl; have xmr5 := Xm.c 5 rfl; have xmr6 := Xm.c 6 rfl; have xmr7 := Xm.c 7 rfl; have xor0 := Xo.c 0 rfl; have xor1 := Xo.c 1 rfl; have xor2 := Xo.c 2 rfl; have xor3 := Xo.c 3 rfl; have xor4 := Xo.c 4 rfl; have xor5 := Xo.c 5 rfl; have xor6 := Xo.c 6 rfl; have xor7 := Xo.c 7 rfl
            go_wp2_with fail
            refine (DV _).mono ?_
            rintro e v13 ⟨rfl, hB⟩
            replace Xp := (Xp.step hB).alloc (.cells #[.int .u64 (ww3 x), .int .u64 (ww2 x), .int .u64 (ww1 x), .int .u64 (ww0 x), .int .u64 (ww3 y), .int .u64 (ww2 y), .int .u64 (ww1 y), .int .u64 (ww0 y)] 28)
            replace Xq := (Xq.step hB).alloc (.cells #[.int .u64 (ww3 x), .int .u64 (ww2 x), .int .u64 (ww1 x), .int .u64 (ww0 x), .int .u64 (ww3 y), .int .u64 (ww2 y), .int .u64 (ww1 y), .int .u64 (ww0 y)] 28)
            replace Xs := (Xs.step hB).alloc (.cells #[.int .u64 (ww3 x), .int .u64 (ww2 x), .int .u64 (ww1 x), .int .u64 (ww0 x), .int .u64 (ww3 y), .int .u64 (ww2 y), .int .u64 (ww1 y), .int .u64 (ww0 y)] 28)
            replace Xt := (Xt.step hB).alloc (.cells #[.int .u64 (ww3 x), .int .u64 (ww2 x), .int .u64 (ww1 x), .int .u64 (ww0 x), .int .u64 (ww3 y), .int .u64 (ww2 y), .int .u64 (ww1 y), .int .u64 (ww0 y)] 28)
            replace Xw := (Xw.step hB).alloc (.cells #[.int .u64 (ww3 x), .int .u64 (ww2 x), .int .u64 (ww1 x), .int .u64 (ww0 x), .int .u64 (ww3 y), .int .u64 (ww2 y), .int .u64 (ww1 y), .int .u64 (ww0 y)] 28)
            replace Xn := (Xn.step hB).alloc (.cells #[.int .u64 (ww3 x), .int .u64 (ww2 x), .int .u64 (ww1 x), .int .u64 (ww0 x), .int .u64 (ww3 y), .int .u64 (ww2 y), .int .u64 (ww1 y), .int .u64 (ww0 y)] 28)
            replace Xm := (Xm.step hB).alloc (.cells #[.int .u64 (ww3 x), .int .u64 (ww2 x), .int .u64 (ww1 x), .int .u64 (ww0 x), .int .u64 (ww3 y), .int .u64 (ww2 y), .int .u64 (ww1 y), .int .u64 (ww0 y)] 28)
            replace Xo := (Xo.step hB).alloc (.cells #[.int .u64 (ww3 x), .int .u64 (ww2 x), .int .u64 (ww1 x), .int .u64 (ww0 x), .int .u64 (ww3 y), .int .u64 (ww2 y), .int .u64 (ww1 y), .int .u64 (ww0 y)] 28)
            have Xd := Blk.new v13 [.int .u64 (ww3 x), .int .u64 (ww2 x), .int .u64 (ww1 x), .int .u64 (ww0 x), .int .u64 (ww3 y), .int .u64 (ww2 y), .int .u64 (ww1 y), .int .u64 (ww0 y)] 28 rfl
            replace HB := (HB.trans (hB.mono HB.size)).alloc (HB.trans (hB.mono HB.size)).size (.cells #[.int .u64 (ww3 x), .int .u64 (ww2 x), .int .u64 (ww1 x), .int .u64 (ww0 x), .int .u64 (ww3 y), .int .u64 (ww2 y), .int .u64 (ww1 y), .int .u64 (ww0 y)] 28)
            clear hB xpr0 xpr1 xpr2 xpr3 xpr4 xpr5 xpr6 xpr7 xqr0 xqr1 xqr2 xqr3 xqr4 xqr5 xqr6 xqr7 xsr0 xsr1 xsr2 xsr3 xsr4 xsr5 xsr6 xsr7 xtr0 xtr1 xtr2 xtr3 xtr4 xtr5 xtr6 xtr7 xwr0 xwr1 xwr2 xwr3 xwr4 xwr5 xwr6 xwr7 xnr0 xnr1 xnr2 xnr3 xmr0 xmr1 xmr2 xmr3 xmr4 xmr5 xmr6 xmr7 xor0 xor1 xor2 xor3 xor4 xor5 xor6 xor7
            have xpr0 := Xp.c 0 rfl; have xpr1 := Xp.c 1 rfl; have xpr2 := Xp.c 2 rfl; have xpr3 := Xp.c 3 rfl; have xpr4 := Xp.c 4 rfl; have xpr5 := Xp.c 5 rfl; have xpr6 := Xp.c 6 rfl; have xpr7 := Xp.c 7 rfl; have xqr0 := Xq.c 0 rfl; have xqr1 := Xq.c 1 rfl; have xqr2 := Xq.c 2 rfl; have xqr3 := Xq.c 3 rfl; have xqr4 := Xq.c 4 rfl; have xqr5 := Xq.c 5 rfl; have xqr6 := Xq.c 6 rfl; have xqr7 := Xq.c 7 rfl; have xsr0 := Xs.c 0 rfl; have xsr1 := Xs.c 1 rfl; have xsr2 := Xs.c 2 rfl; have xsr3 := Xs.c 3 rfl; have xsr4 := Xs.c 4 rfl; have xsr5 := Xs.c 5 rfl; have xsr6 := Xs.c 6 rfl; have xsr7 := Xs.c 7 rfl; have xtr0 := Xt.c 0 rfl; have xtr1 := Xt.c 1 rfl; have xtr2 := Xt.c 2 rfl; have xtr3 := Xt.c 3 rfl; have xtr4 := Xt.c 4 rfl; have xtr5 := Xt.c 5 rfl; have xtr6 := Xt.c 6 rfl; have xtr7 := Xt.c 7 rfl; have xwr0 := Xw.c 0 rfl; have xwr1 := Xw.c 1 rfl; have xwr2 := Xw.c 2 rfl; have xwr3 := Xw.c 3 rfl; have xwr4 := Xw.c 4 rfl; have xwr5 := Xw.c 5 rfl; have xwr6 := Xw.c 6 rfl; have xwr7 := Xw.c 7 rfl; have xnr0 := Xn.c 0 rfl; have xnr1 := Xn.c 1 rfl; have xnr2 := Xn.c 2 rfl; have xnr3 := Xn.c 3 rfl; have xmr0 := Xm.c 0 rfl; have xmr1 := Xm.c 1 rfl; have xmr2 := Xm.c 2 rfl; have xmr3 := Xm.c 3 rfl; have xmr4 := Xm.c 4 rfl; have xmr5 := Xm.c 5 rfl; have xmr6 := Xm.c 6 rfl; have xmr7 := Xm.c 7 rfl; have xor0 := Xo.c 0 rfl; have xor1 := Xo.c 1 rfl; have xor2 := Xo.c 2 rfl; have xor3 := Xo.c 3 rfl; have xor4 := Xo.c 4 rfl; have xor5 := Xo.c 5 rfl; have xor6 := Xo.c 6 rfl; have xor7 := Xo.c 7 rfl; have xdr0 := Xd.c 0 rfl; have xdr1 := Xd.c 1 rfl; have xdr2 := Xd.c 2 rfl; have xdr3 := Xd.c 3 rfl; have xdr4 := Xd.c 4 rfl; have xdr5 := Xd.c 5 rfl; have xdr6 := Xd.c 6 rfl; have xdr7 := Xd.c 7 rfl
            go_wp2_with fail
            refine (OK _).mono ?_
            rintro e v14 ⟨rfl, hB⟩
            replace Xp := Xp.step hB
            replace Xq := Xq.step hB
            replace Xs := Xs.step hB
            replace Xt := Xt.step hB
            replace Xw := Xw.step hB
            replace Xn := Xn.step hB
            replace Xm := Xm.step hB
            replace Xo := Xo.step hB
            replace Xd := Xd.step hB
            replace HB := HB.trans (hB.mono HB.size)
            clear hB xpr0 xpr1 xpr2 xpr3 xpr4 xpr5 xpr6 xpr7 xqr0 xqr1 xqr2 xqr3 xqr4 xqr5 xqr6 xqr7 xsr0 xsr1 xsr2 xsr3 xsr4 xsr5 xsr6 xsr7 xtr0 xtr1 xtr2 xtr3 xtr4 xtr5 xtr6 xtr7 xwr0 xwr1 xwr2 xwr3 xwr4 xwr5 xwr6 xwr7 xnr0 xnr1 xnr2 xnr3 xmr0 xmr1 xmr2 xmr3 xmr4 xmr5 xmr6 xmr7 xor0 xor1 xor2 xor3 xor4 xor5 xor6 xor7 xdr0 xdr1 xdr2 xdr3 xdr4 xdr5 xdr6 xdr7
            have xpr0 := Xp.c 0 rfl; have xpr1 := Xp.c 1 rfl; have xpr2 := Xp.c 2 rfl; have xpr3 := Xp.c 3 rfl; have xpr4 := Xp.c 4 rfl; have xpr5 := Xp.c 5 rfl; have xpr6 := Xp.c 6 rfl; have xpr7 := Xp.c 7 rfl; have xqr0 := Xq.c 0 rfl; have xqr1 := Xq.c 1 rfl; have xqr2 := Xq.c 2 rfl; have xqr3 := Xq.c 3 rfl; have xqr4 := Xq.c 4 rfl; have xqr5 := Xq.c 5 rfl; have xqr6 := Xq.c 6 rfl; have xqr7 := Xq.c 7 rfl; have xsr0 := Xs.c 0 rfl; have xsr1 := Xs.c 1 rfl; have xsr2 := Xs.c 2 rfl; have xsr3 := Xs.c 3 rfl; have xsr4 := Xs.c 4 rfl; have xsr5 := Xs.c 5 rfl; have xsr6 := Xs.c 6 rfl; have xsr7 := Xs.c 7 rfl; have xtr0 := Xt.c 0 rfl; have xtr1 := Xt.c 1 rfl; have xtr2 := Xt.c 2 rfl; have xtr3 := Xt.c 3 rfl; have xtr4 := Xt.c 4 rfl; have xtr5 := Xt.c 5 rfl; have xtr6 := Xt.c 6 rfl; have xtr7 := Xt.c 7 rfl; have xwr0 := Xw.c 0 rfl; have xwr1 := Xw.c 1 rfl; have xwr2 := Xw.c 2 rfl; have xwr3 := Xw.c 3 rfl; have xwr4 := Xw.c 4 rfl; have xwr5 := Xw.c 5 rfl; have xwr6 := Xw.c 6 rfl; have xwr7 := Xw.c 7 rfl; have xnr0 := Xn.c 0 rfl; have xnr1 := Xn.c 1 rfl; have xnr2 := Xn.c 2 rfl; have xnr3 := Xn.c 3 rfl; have xmr0 := Xm.c 0 rfl; have xmr1 := Xm.c 1 rfl; have xmr2 := Xm.c 2 rfl; have xmr3 := Xm.c 3 rfl; have xmr4 := Xm.c 4 rfl; have xmr5 := Xm.c 5 rfl; have xmr6 := Xm.c 6 rfl; have xmr7 := Xm.c 7 rfl; have xor0 := Xo.c 0 rfl; have xor1 := Xo.c 1 rfl; have xor2 := Xo.c 2 rfl; have xor3 := Xo.c 3 rfl; have xor4 := Xo.c 4 rfl; have xor5 := Xo.c 5 rfl; have xor6 := Xo.c 6 rfl; have xor7 := Xo.c 7 rfl; have xdr0 := Xd.c 0 rfl; have xdr1 := Xd.c 1 rfl; have xdr2 := Xd.c 2 rfl; have xdr3 := Xd.c 3 rfl; have xdr4 := Xd.c 4 rfl; have xdr5 := Xd.c 5 rfl; have xdr6 := Xd.c 6 rfl; have xdr7 := Xd.c 7 rfl
            clear Xp Xq Xs Xt Xw Xn Xm Xo Xd
            go_wp2
            go_ret
            exact ⟨rfl, HB⟩
      · obtain rfl := hmz rfl
        have AB := addZ_det N D (-u) v tN tD tm tv
        rw [hB2] at AB
        clear hB2 hmz
        have xpr0 := Xp.c 0 rfl; have xpr1 := Xp.c 1 rfl; have xpr2 := Xp.c 2 rfl; have xpr3 := Xp.c 3 rfl; have xpr4 := Xp.c 4 rfl; have xpr5 := Xp.c 5 rfl; have xpr6 := Xp.c 6 rfl; have xpr7 := Xp.c 7 rfl; have xqr0 := Xq.c 0 rfl; have xqr1 := Xq.c 1 rfl; have xqr2 := Xq.c 2 rfl; have xqr3 := Xq.c 3 rfl; have xqr4 := Xq.c 4 rfl; have xqr5 := Xq.c 5 rfl; have xqr6 := Xq.c 6 rfl; have xqr7 := Xq.c 7 rfl; have xsr0 := Xs.c 0 rfl; have xsr1 := Xs.c 1 rfl; have xsr2 := Xs.c 2 rfl; have xsr3 := Xs.c 3 rfl; have xsr4 := Xs.c 4 rfl; have xsr5 := Xs.c 5 rfl; have xsr6 := Xs.c 6 rfl; have xsr7 := Xs.c 7 rfl; have xtr0 := Xt.c 0 rfl; have xtr1 := Xt.c 1 rfl; have xtr2 := Xt.c 2 rfl; have xtr3 := Xt.c 3 rfl; have xtr4 := Xt.c 4 rfl; have xtr5 := Xt.c 5 rfl; have xtr6 := Xt.c 6 rfl; have xtr7 := Xt.c 7 rfl; have xwr0 := Xw.c 0 rfl; have xwr1 := Xw.c 1 rfl; have xwr2 := Xw.c 2 rfl; have xwr3 := Xw.c 3 rfl; have xwr4 := Xw.c 4 rfl; have xwr5 := Xw.c 5 rfl; have xwr6 := Xw.c 6 rfl; have xwr7 := Xw.c 7 rfl; have xnr0 := Xn.c 0 rfl; have xnr1 := Xn.c 1 rfl; have xnr2 := Xn.c 2 rfl; have xnr3 := Xn.c 3 rfl
        go_wp2_with fail
        refine (AB _).mono ?_
        rintro e v15 ⟨rfl, hB⟩
        replace Xp := (Xp.step hB).alloc (.cells #[.int .u64 (ww3 x), .int .u64 (ww2 x), .int .u64 (ww1 x), .int .u64 (ww0 x), .int .u64 (ww3 y), .int .u64 (ww2 y), .int .u64 (ww1 y), .int .u64 (ww0 y)] 28)
        replace Xq := (Xq.step hB).alloc (.cells #[.int .u64 (ww3 x), .int .u64 (ww2 x), .int .u64 (ww1 x), .int .u64 (ww0 x), .int .u64 (ww3 y), .int .u64 (ww2 y), .int .u64 (ww1 y), .int .u64 (ww0 y)] 28)
        replace Xs := (Xs.step hB).alloc (.cells #[.int .u64 (ww3 x), .int .u64 (ww2 x), .int .u64 (ww1 x), .int .u64 (ww0 x), .int .u64 (ww3 y), .int .u64 (ww2 y), .int .u64 (ww1 y), .int .u64 (ww0 y)] 28)
        replace Xt := (Xt.step hB).alloc (.cells #[.int .u64 (ww3 x), .int .u64 (ww2 x), .int .u64 (ww1 x), .int .u64 (ww0 x), .int .u64 (ww3 y), .int .u64 (ww2 y), .int .u64 (ww1 y), .int .u64 (ww0 y)] 28)
        replace Xw := (Xw.step hB).alloc (.cells #[.int .u64 (ww3 x), .int .u64 (ww2 x), .int .u64 (ww1 x), .int .u64 (ww0 x), .int .u64 (ww3 y), .int .u64 (ww2 y), .int .u64 (ww1 y), .int .u64 (ww0 y)] 28)
        replace Xn := (Xn.step hB).alloc (.cells #[.int .u64 (ww3 x), .int .u64 (ww2 x), .int .u64 (ww1 x), .int .u64 (ww0 x), .int .u64 (ww3 y), .int .u64 (ww2 y), .int .u64 (ww1 y), .int .u64 (ww0 y)] 28)
        have Xb := Blk.new v15 [.int .u64 (ww3 x), .int .u64 (ww2 x), .int .u64 (ww1 x), .int .u64 (ww0 x), .int .u64 (ww3 y), .int .u64 (ww2 y), .int .u64 (ww1 y), .int .u64 (ww0 y)] 28 rfl
        replace HB := (HB.trans (hB.mono HB.size)).alloc (HB.trans (hB.mono HB.size)).size (.cells #[.int .u64 (ww3 x), .int .u64 (ww2 x), .int .u64 (ww1 x), .int .u64 (ww0 x), .int .u64 (ww3 y), .int .u64 (ww2 y), .int .u64 (ww1 y), .int .u64 (ww0 y)] 28)
        clear hB xpr0 xpr1 xpr2 xpr3 xpr4 xpr5 xpr6 xpr7 xqr0 xqr1 xqr2 xqr3 xqr4 xqr5 xqr6 xqr7 xsr0 xsr1 xsr2 xsr3 xsr4 xsr5 xsr6 xsr7 xtr0 xtr1 xtr2 xtr3 xtr4 xtr5 xtr6 xtr7 xwr0 xwr1 xwr2 xwr3 xwr4 xwr5 xwr6 xwr7 xnr0 xnr1 xnr2 xnr3
        clear AB
        have xpr0 := Xp.c 0 rfl; have xpr1 := Xp.c 1 rfl; have xpr2 := Xp.c 2 rfl; have xpr3 := Xp.c 3 rfl; have xpr4 := Xp.c 4 rfl; have xpr5 := Xp.c 5 rfl; have xpr6 := Xp.c 6 rfl; have xpr7 := Xp.c 7 rfl; have xqr0 := Xq.c 0 rfl; have xqr1 := Xq.c 1 rfl; have xqr2 := Xq.c 2 rfl; have xqr3 := Xq.c 3 rfl; have xqr4 := Xq.c 4 rfl; have xqr5 := Xq.c 5 rfl; have xqr6 := Xq.c 6 rfl; have xqr7 := Xq.c 7 rfl; have xsr0 := Xs.c 0 rfl; have xsr1 := Xs.c 1 rfl; have xsr2 := Xs.c 2 rfl; have xsr3 := Xs.c 3 rfl; have xsr4 := Xs.c 4 rfl; have xsr5 := Xs.c 5 rfl; have xsr6 := Xs.c 6 rfl; have xsr7 := Xs.c 7 rfl; have xtr0 := Xt.c 0 rfl; have xtr1 := Xt.c 1 rfl; have xtr2 := Xt.c 2 rfl; have xtr3 := Xt.c 3 rfl; have xtr4 := Xt.c 4 rfl; have xtr5 := Xt.c 5 rfl; have xtr6 := Xt.c 6 rfl; have xtr7 := Xt.c 7 rfl; have xwr0 := Xw.c 0 rfl; have xwr1 := Xw.c 1 rfl; have xwr2 := Xw.c 2 rfl; have xwr3 := Xw.c 3 rfl; have xwr4 := Xw.c 4 rfl; have xwr5 := Xw.c 5 rfl; have xwr6 := Xw.c 6 rfl; have xwr7 := Xw.c 7 rfl; have xnr0 := Xn.c 0 rfl; have xnr1 := Xn.c 1 rfl; have xnr2 := Xn.c 2 rfl; have xnr3 := Xn.c 3 rfl; have xbr0 := Xb.c 0 rfl; have xbr1 := Xb.c 1 rfl; have xbr2 := Xb.c 2 rfl; have xbr3 := Xb.c 3 rfl; have xbr4 := Xb.c 4 rfl; have xbr5 := Xb.c 5 rfl; have xbr6 := Xb.c 6 rfl; have xbr7 := Xb.c 7 rfl
        go_wp2_with fail
        refine (M0 _).mono ?_
        rintro e v16 ⟨rfl, hB⟩
        replace Xp := (Xp.step hB).alloc (.cells #[.int .u64 (ww3 P), .int .u64 (ww2 P), .int .u64 (ww1 P), .int .u64 (ww0 P), .int .u64 (ww3 Q), .int .u64 (ww2 Q), .int .u64 (ww1 Q), .int .u64 (ww0 Q)] 28)
        replace Xq := (Xq.step hB).alloc (.cells #[.int .u64 (ww3 P), .int .u64 (ww2 P), .int .u64 (ww1 P), .int .u64 (ww0 P), .int .u64 (ww3 Q), .int .u64 (ww2 Q), .int .u64 (ww1 Q), .int .u64 (ww0 Q)] 28)
        replace Xs := (Xs.step hB).alloc (.cells #[.int .u64 (ww3 P), .int .u64 (ww2 P), .int .u64 (ww1 P), .int .u64 (ww0 P), .int .u64 (ww3 Q), .int .u64 (ww2 Q), .int .u64 (ww1 Q), .int .u64 (ww0 Q)] 28)
        replace Xt := (Xt.step hB).alloc (.cells #[.int .u64 (ww3 P), .int .u64 (ww2 P), .int .u64 (ww1 P), .int .u64 (ww0 P), .int .u64 (ww3 Q), .int .u64 (ww2 Q), .int .u64 (ww1 Q), .int .u64 (ww0 Q)] 28)
        replace Xw := (Xw.step hB).alloc (.cells #[.int .u64 (ww3 P), .int .u64 (ww2 P), .int .u64 (ww1 P), .int .u64 (ww0 P), .int .u64 (ww3 Q), .int .u64 (ww2 Q), .int .u64 (ww1 Q), .int .u64 (ww0 Q)] 28)
        replace Xn := (Xn.step hB).alloc (.cells #[.int .u64 (ww3 P), .int .u64 (ww2 P), .int .u64 (ww1 P), .int .u64 (ww0 P), .int .u64 (ww3 Q), .int .u64 (ww2 Q), .int .u64 (ww1 Q), .int .u64 (ww0 Q)] 28)
        replace Xb := (Xb.step hB).alloc (.cells #[.int .u64 (ww3 P), .int .u64 (ww2 P), .int .u64 (ww1 P), .int .u64 (ww0 P), .int .u64 (ww3 Q), .int .u64 (ww2 Q), .int .u64 (ww1 Q), .int .u64 (ww0 Q)] 28)
        have Xm := Blk.new v16 [.int .u64 (ww3 P), .int .u64 (ww2 P), .int .u64 (ww1 P), .int .u64 (ww0 P), .int .u64 (ww3 Q), .int .u64 (ww2 Q), .int .u64 (ww1 Q), .int .u64 (ww0 Q)] 28 rfl
        replace HB := (HB.trans (hB.mono HB.size)).alloc (HB.trans (hB.mono HB.size)).size (.cells #[.int .u64 (ww3 P), .int .u64 (ww2 P), .int .u64 (ww1 P), .int .u64 (ww0 P), .int .u64 (ww3 Q), .int .u64 (ww2 Q), .int .u64 (ww1 Q), .int .u64 (ww0 Q)] 28)
        clear hB xpr0 xpr1 xpr2 xpr3 xpr4 xpr5 xpr6 xpr7 xqr0 xqr1 xqr2 xqr3 xqr4 xqr5 xqr6 xqr7 xsr0 xsr1 xsr2 xsr3 xsr4 xsr5 xsr6 xsr7 xtr0 xtr1 xtr2 xtr3 xtr4 xtr5 xtr6 xtr7 xwr0 xwr1 xwr2 xwr3 xwr4 xwr5 xwr6 xwr7 xnr0 xnr1 xnr2 xnr3 xbr0 xbr1 xbr2 xbr3 xbr4 xbr5 xbr6 xbr7
        have xpr0 := Xp.c 0 rfl; have xpr1 := Xp.c 1 rfl; have xpr2 := Xp.c 2 rfl; have xpr3 := Xp.c 3 rfl; have xpr4 := Xp.c 4 rfl; have xpr5 := Xp.c 5 rfl; have xpr6 := Xp.c 6 rfl; have xpr7 := Xp.c 7 rfl; have xqr0 := Xq.c 0 rfl; have xqr1 := Xq.c 1 rfl; have xqr2 := Xq.c 2 rfl; have xqr3 := Xq.c 3 rfl; have xqr4 := Xq.c 4 rfl; have xqr5 := Xq.c 5 rfl; have xqr6 := Xq.c 6 rfl; have xqr7 := Xq.c 7 rfl; have xsr0 := Xs.c 0 rfl; have xsr1 := Xs.c 1 rfl; have xsr2 := Xs.c 2 rfl; have xsr3 := Xs.c 3 rfl; have xsr4 := Xs.c 4 rfl; have xsr5 := Xs.c 5 rfl; have xsr6 := Xs.c 6 rfl; have xsr7 := Xs.c 7 rfl; have xtr0 := Xt.c 0 rfl; have xtr1 := Xt.c 1 rfl; have xtr2 := Xt.c 2 rfl; have xtr3 := Xt.c 3 rfl; have xtr4 := Xt.c 4 rfl; have xtr5 := Xt.c 5 rfl; have xtr6 := Xt.c 6 rfl; have xtr7 := Xt.c 7 rfl; have xwr0 := Xw.c 0 rfl; have xwr1 := Xw.c 1 rfl; have xwr2 := Xw.c 2 rfl; have xwr3 := Xw.c 3 rfl; have xwr4 := Xw.c 4 rfl; have xwr5 := Xw.c 5 rfl; have xwr6 := Xw.c 6 rfl; have xwr7 := Xw.c 7 rfl; have xnr0 := Xn.c 0 rfl; have xnr1 := Xn.c 1 rfl; have xnr2 := Xn.c 2 rfl; have xnr3 := Xn.c 3 rfl; have xbr0 := Xb.c 0 rfl; have xbr1 := Xb.c 1 rfl; have xbr2 := Xb.c 2 rfl; have xbr3 := Xb.c 3 rfl; have xbr4 := Xb.c 4 rfl; have xbr5 := Xb.c 5 rfl; have xbr6 := Xb.c 6 rfl; have xbr7 := Xb.c 7 rfl; have xmr0 := Xm.c 0 rfl; have xmr1 := Xm.c 1 rfl; have xmr2 := Xm.c 2 rfl; have xmr3 := Xm.c 3 rfl; have xmr4 := Xm.c 4 rfl; have xmr5 := Xm.c 5 rfl; have xmr6 := Xm.c 6 rfl; have xmr7 := Xm.c 7 rfl
        go_wp2_with fail
        refine (M1 _).mono ?_
        rintro e v17 ⟨rfl, hB⟩
        replace Xp := (Xp.step hB).alloc (.cells #[.int .u64 (ww3 P), .int .u64 (ww2 P), .int .u64 (ww1 P), .int .u64 (ww0 P), .int .u64 (ww3 Q), .int .u64 (ww2 Q), .int .u64 (ww1 Q), .int .u64 (ww0 Q)] 28)
        replace Xq := (Xq.step hB).alloc (.cells #[.int .u64 (ww3 P), .int .u64 (ww2 P), .int .u64 (ww1 P), .int .u64 (ww0 P), .int .u64 (ww3 Q), .int .u64 (ww2 Q), .int .u64 (ww1 Q), .int .u64 (ww0 Q)] 28)
        replace Xs := (Xs.step hB).alloc (.cells #[.int .u64 (ww3 P), .int .u64 (ww2 P), .int .u64 (ww1 P), .int .u64 (ww0 P), .int .u64 (ww3 Q), .int .u64 (ww2 Q), .int .u64 (ww1 Q), .int .u64 (ww0 Q)] 28)
        replace Xt := (Xt.step hB).alloc (.cells #[.int .u64 (ww3 P), .int .u64 (ww2 P), .int .u64 (ww1 P), .int .u64 (ww0 P), .int .u64 (ww3 Q), .int .u64 (ww2 Q), .int .u64 (ww1 Q), .int .u64 (ww0 Q)] 28)
        replace Xw := (Xw.step hB).alloc (.cells #[.int .u64 (ww3 P), .int .u64 (ww2 P), .int .u64 (ww1 P), .int .u64 (ww0 P), .int .u64 (ww3 Q), .int .u64 (ww2 Q), .int .u64 (ww1 Q), .int .u64 (ww0 Q)] 28)
        replace Xn := (Xn.step hB).alloc (.cells #[.int .u64 (ww3 P), .int .u64 (ww2 P), .int .u64 (ww1 P), .int .u64 (ww0 P), .int .u64 (ww3 Q), .int .u64 (ww2 Q), .int .u64 (ww1 Q), .int .u64 (ww0 Q)] 28)
        replace Xb := (Xb.step hB).alloc (.cells #[.int .u64 (ww3 P), .int .u64 (ww2 P), .int .u64 (ww1 P), .int .u64 (ww0 P), .int .u64 (ww3 Q), .int .u64 (ww2 Q), .int .u64 (ww1 Q), .int .u64 (ww0 Q)] 28)
        replace Xm := (Xm.step hB).alloc (.cells #[.int .u64 (ww3 P), .int .u64 (ww2 P), .int .u64 (ww1 P), .int .u64 (ww0 P), .int .u64 (ww3 Q), .int .u64 (ww2 Q), .int .u64 (ww1 Q), .int .u64 (ww0 Q)] 28)
        have Xo := Blk.new v17 [.int .u64 (ww3 P), .int .u64 (ww2 P), .int .u64 (ww1 P), .int .u64 (ww0 P), .int .u64 (ww3 Q), .int .u64 (ww2 Q), .int .u64 (ww1 Q), .int .u64 (ww0 Q)] 28 rfl
        replace HB := (HB.trans (hB.mono HB.size)).alloc (HB.trans (hB.mono HB.size)).size (.cells #[.int .u64 (ww3 P), .int .u64 (ww2 P), .int .u64 (ww1 P), .int .u64 (ww0 P), .int .u64 (ww3 Q), .int .u64 (ww2 Q), .int .u64 (ww1 Q), .int .u64 (ww0 Q)] 28)
        clear hB xpr0 xpr1 xpr2 xpr3 xpr4 xpr5 xpr6 xpr7 xqr0 xqr1 xqr2 xqr3 xqr4 xqr5 xqr6 xqr7 xsr0 xsr1 xsr2 xsr3 xsr4 xsr5 xsr6 xsr7 xtr0 xtr1 xtr2 xtr3 xtr4 xtr5 xtr6 xtr7 xwr0 xwr1 xwr2 xwr3 xwr4 xwr5 xwr6 xwr7 xnr0 xnr1 xnr2 xnr3 xbr0 xbr1 xbr2 xbr3 xbr4 xbr5 xbr6 xbr7 xmr0 xmr1 xmr2 xmr3 xmr4 xmr5 xmr6 xmr7
        cases ok2
        · skip
          have xpr0 := Xp.c 0 rfl; have xpr1 := Xp.c 1 rfl; have xpr2 := Xp.c 2 rfl; have xpr3 := Xp.c 3 rfl; have xpr4 := Xp.c 4 rfl; have xpr5 := Xp.c 5 rfl; have xpr6 := Xp.c 6 rfl; have xpr7 := Xp.c 7 rfl; have xqr0 := Xq.c 0 rfl; have xqr1 := Xq.c 1 rfl; have xqr2 := Xq.c 2 rfl; have xqr3 := Xq.c 3 rfl; have xqr4 := Xq.c 4 rfl; have xqr5 := Xq.c 5 rfl; have xqr6 := Xq.c 6 rfl; have xqr7 := Xq.c 7 rfl; have xsr0 := Xs.c 0 rfl; have xsr1 := Xs.c 1 rfl; have xsr2 := Xs.c 2 rfl; have xsr3 := Xs.c 3 rfl; have xsr4 := Xs.c 4 rfl; have xsr5 := Xs.c 5 rfl; have xsr6 := Xs.c 6 rfl; have xsr7 := Xs.c 7 rfl; have xtr0 := Xt.c 0 rfl; have xtr1 := Xt.c 1 rfl; have xtr2 := Xt.c 2 rfl; have xtr3 := Xt.c 3 rfl; have xtr4 := Xt.c 4 rfl; have xtr5 := Xt.c 5 rfl; have xtr6 := Xt.c 6 rfl; have xtr7 := Xt.c 7 rfl; have xwr0 := Xw.c 0 rfl; have xwr1 := Xw.c 1 rfl; have xwr2 := Xw.c 2 rfl; have xwr3 := Xw.c 3 rfl; have xwr4 := Xw.c 4 rfl; have xwr5 := Xw.c 5 rfl; have xwr6 := Xw.c 6 rfl; have xwr7 := Xw.c 7 rfl; have xnr0 := Xn.c 0 rfl; have xnr1 := Xn.c 1 rfl; have xnr2 := Xn.c 2 rfl; have xnr3 := Xn.c 3 rfl; have xbr0 := Xb.c 0 rfl; have xbr1 := Xb.c 1 rfl; have xbr2 := Xb.c 2 rfl; have xbr3 := Xb.c 3 rfl; have xbr4 := Xb.c 4 rfl; have xbr5 := Xb.c 5 rfl; have xbr6 := Xb.c 6 rfl; have xbr7 := Xb.c 7 rfl; have xmr0 := Xm.c 0 rfl; have xmr1 := Xm.c 1 rfl; have xmr2 := Xm.c 2 rfl; have xmr3 := Xm.c 3 rfl; have xmr4 := Xm.c 4 rfl; have xmr5 := Xm.c 5 rfl; have xmr6 := Xm.c 6 rfl; have xmr7 := Xm.c 7 rfl; have xor0 := Xo.c 0 rfl; have xor1 := Xo.c 1 rfl; have xor2 := Xo.c 2 rfl; have xor3 := Xo.c 3 rfl; have xor4 := Xo.c 4 rfl; have xor5 := Xo.c 5 rfl; have xor6 := Xo.c 6 rfl; have xor7 := Xo.c 7 rfl
          clear Xp Xq Xs Xt Xw Xn Xb Xm Xo
          go_wp2
          go_ret
          exact ⟨rfl, HB⟩
        · skip
          have xpr0 := Xp.c 0 rfl; have xpr1 := Xp.c 1 rfl; have xpr2 := Xp.c 2 rfl; have xpr3 := Xp.c 3 rfl; have xpr4 := Xp.c 4 rfl; have xpr5 := Xp.c 5 rfl; have xpr6 := Xp.c 6 rfl; have xpr7 := Xp.c 7 rfl; have xqr0 := Xq.c 0 rfl; have xqr1 := Xq.c 1 rfl; have xqr2 := Xq.c 2 rfl; have xqr3 := Xq.c 3 rfl; have xqr4 := Xq.c 4 rfl; have xqr5 := Xq.c 5 rfl; have xqr6 := Xq.c 6 rfl; have xqr7 := Xq.c 7 rfl; have xsr0 := Xs.c 0 rfl; have xsr1 := Xs.c 1 rfl; have xsr2 := Xs.c 2 rfl; have xsr3 := Xs.c 3 rfl; have xsr4 := Xs.c 4 rfl; have xsr5 := Xs.c 5 rfl; have xsr6 := Xs.c 6 rfl; have xsr7 := Xs.c 7 rfl; have xtr0 := Xt.c 0 rfl; have xtr1 := Xt.c 1 rfl; have xtr2 := Xt.c 2 rfl; have xtr3 := Xt.c 3 rfl; have xtr4 := Xt.c 4 rfl; have xtr5 := Xt.c 5 rfl; have xtr6 := Xt.c 6 rfl; have xtr7 := Xt.c 7 rfl; have xwr0 := Xw.c 0 rfl; have xwr1 := Xw.c 1 rfl; have xwr2 := Xw.c 2 rfl; have xwr3 := Xw.c 3 rfl; have xwr4 := Xw.c 4 rfl; have xwr5 := Xw.c 5 rfl; have xwr6 := Xw.c 6 rfl; have xwr7 := Xw.c 7 rfl; have xnr0 := Xn.c 0 rfl; have xnr1 := Xn.c 1 rfl; have xnr2 := Xn.c 2 rfl; have xnr3 := Xn.c 3 rfl; have xbr0 := Xb.c 0 rfl; have xbr1 := Xb.c 1 rfl; have xbr2 := Xb.c 2 rfl; have xbr3 := Xb.c 3 rfl; have xbr4 := Xb.c 4 rfl; have xbr5 := Xb.c 5 rfl; have xbr6 := Xb.c 6 rfl; have xbr7 := Xb.c 7 rfl; have xmr0 := Xm.c 0 rfl; have xmr1 := Xm.c 1 rfl; have xmr2 := Xm.c 2 rfl; have xmr3 := Xm.c 3 rfl; have xmr4 := Xm.c 4 rfl; have xmr5 := Xm.c 5 rfl; have xmr6 := Xm.c 6 rfl; have xmr7 := Xm.c 7 rfl; have xor0 := Xo.c 0 rfl; have xor1 := Xo.c 1 rfl; have xor2 := Xo.c 2 rfl; have xor3 := Xo.c 3 rfl; have xor4 := Xo.c 4 rfl; have xor5 := Xo.c 5 rfl; have xor6 := Xo.c 6 rfl; have xor7 := Xo.c 7 rfl
          go_wp2_with fail
          refine (SG _).mono ?_
          rintro e v18 ⟨rfl, hB⟩
          replace Xp := Xp.step hB
          replace Xq := Xq.step hB
          replace Xs := Xs.step hB
          replace Xt := Xt.step hB
          replace Xw := Xw.step hB
          replace Xn := Xn.step hB
          replace Xb := Xb.step hB
          replace Xm := Xm.step hB
          replace Xo := Xo.step hB
          replace HB := HB.trans (hB.mono HB.size)
          clear hB xpr0 xpr1 xpr2 xpr3 xpr4 xpr5 xpr6 xpr7 xqr0 xqr1 xqr2 xqr3 xqr4 xqr5 xqr6 xqr7 xsr0 xsr1 xsr2 xsr3 xsr4 xsr5 xsr6 xsr7 xtr0 xtr1 xtr2 xtr3 xtr4 xtr5 xtr6 xtr7 xwr0 xwr1 xwr2 xwr3 xwr4 xwr5 xwr6 xwr7 xnr0 xnr1 xnr2 xnr3 xbr0 xbr1 xbr2 xbr3 xbr4 xbr5 xbr6 xbr7 xmr0 xmr1 xmr2 xmr3 xmr4 xmr5 xmr6 xmr7 xor0 xor1 xor2 xor3 xor4 xor5 xor6 xor7
          by_cases hu : u = 0
          · have e0 : cmpI u 0 = 0 := by rw [hu]; rfl
            rw [e0]
            clear e0
            have xpr0 := Xp.c 0 rfl; have xpr1 := Xp.c 1 rfl; have xpr2 := Xp.c 2 rfl; have xpr3 := Xp.c 3 rfl; have xpr4 := Xp.c 4 rfl; have xpr5 := Xp.c 5 rfl; have xpr6 := Xp.c 6 rfl; have xpr7 := Xp.c 7 rfl; have xqr0 := Xq.c 0 rfl; have xqr1 := Xq.c 1 rfl; have xqr2 := Xq.c 2 rfl; have xqr3 := Xq.c 3 rfl; have xqr4 := Xq.c 4 rfl; have xqr5 := Xq.c 5 rfl; have xqr6 := Xq.c 6 rfl; have xqr7 := Xq.c 7 rfl; have xsr0 := Xs.c 0 rfl; have xsr1 := Xs.c 1 rfl; have xsr2 := Xs.c 2 rfl; have xsr3 := Xs.c 3 rfl; have xsr4 := Xs.c 4 rfl; have xsr5 := Xs.c 5 rfl; have xsr6 := Xs.c 6 rfl; have xsr7 := Xs.c 7 rfl; have xtr0 := Xt.c 0 rfl; have xtr1 := Xt.c 1 rfl; have xtr2 := Xt.c 2 rfl; have xtr3 := Xt.c 3 rfl; have xtr4 := Xt.c 4 rfl; have xtr5 := Xt.c 5 rfl; have xtr6 := Xt.c 6 rfl; have xtr7 := Xt.c 7 rfl; have xwr0 := Xw.c 0 rfl; have xwr1 := Xw.c 1 rfl; have xwr2 := Xw.c 2 rfl; have xwr3 := Xw.c 3 rfl; have xwr4 := Xw.c 4 rfl; have xwr5 := Xw.c 5 rfl; have xwr6 := Xw.c 6 rfl; have xwr7 := Xw.c 7 rfl; have xnr0 := Xn.c 0 rfl; have xnr1 := Xn.c 1 rfl; have xnr2 := Xn.c 2 rfl; have xnr3 := Xn.c 3 rfl; have xbr0 := Xb.c 0 rfl; have xbr1 := Xb.c 1 rfl; have xbr2 := Xb.c 2 rfl; have xbr3 := Xb.c 3 rfl; have xbr4 := Xb.c 4 rfl; have xbr5 := Xb.c 5 rfl; have xbr6 := Xb.c 6 rfl; have xbr7 := Xb.c 7 rfl; have xmr0 := Xm.c 0 rfl; have xmr1 := Xm.c 1 rfl; have xmr2 := Xm.c 2 rfl; have xmr3 := Xm.c 3 rfl; have xmr4 := Xm.c 4 rfl; have xmr5 := Xm.c 5 rfl; have xmr6 := Xm.c 6 rfl; have xmr7 := Xm.c 7 rfl; have xor0 := Xo.c 0 rfl; have xor1 := Xo.c 1 rfl; have xor2 := Xo.c 2 rfl; have xor3 := Xo.c 3 rfl; have xor4 := Xo.c 4 rfl; have xor5 := Xo.c 5 rfl; have xor6 := Xo.c 6 rfl; have xor7 := Xo.c 7 rfl
            clear Xp Xq Xs Xt Xw Xn Xb Xm Xo
            go_wp2
            go_ret
            exact ⟨rfl, HB⟩
          · have e0 : (cmpI u 0 == 0) = false := by
              rw [beq_eq_false_iff_ne]
              intro h
              exact hu (cmpI_z.1 h)
            obtain ⟨hD, hR⟩ := HM.out (by trivial) hu
            have DV := divZ_det P Q u v tP tQ tu tv
            have OK := okZ_det P Q tP tQ
            rw [hD] at DV
            rw [hR] at OK
            clear hD hR HM
            generalize cmpI u 0 = sg at *
            have xpr0 := Xp.c 0 rfl; have xpr1 := Xp.c 1 rfl; have xpr2 := Xp.c 2 rfl; have xpr3 := Xp.c 3 rfl; have xpr4 := Xp.c 4 rfl; have xpr5 := Xp.c 5 rfl; have xpr6 := Xp.c 6 rfl; have xpr7 := Xp.c 7 rfl; have xqr0 := Xq.c 0 rfl; have xqr1 := Xq.c 1 rfl; have xqr2 := Xq.c 2 rfl; have xqr3 := Xq.c 3 rfl; have xqr4 := Xq.c 4 rfl; have xqr5 := Xq.c 5 rfl; have xqr6 := Xq.c 6 rfl; have xqr7 := Xq.c 7 rfl; have xsr0 := Xs.c 0 rfl; have xsr1 := Xs.c 1 rfl; have xsr2 := Xs.c 2 rfl; have xsr3 := Xs.c 3 rfl; have xsr4 := Xs.c 4 rfl; have xsr5 := Xs.c 5 rfl; have xsr6 := Xs.c 6 rfl; have xsr7 := Xs.c 7 rfl; have xtr0 := Xt.c 0 rfl; have xtr1 := Xt.c 1 rfl; have xtr2 := Xt.c 2 rfl; have xtr3 := Xt.c 3 rfl; have xtr4 := Xt.c 4 rfl; have xtr5 := Xt.c 5 rfl; have xtr6 := Xt.c 6 rfl; have xtr7 := Xt.c 7 rfl; have xwr0 := Xw.c 0 rfl; have xwr1 := Xw.c 1 rfl; have xwr2 := Xw.c 2 rfl; have xwr3 := Xw.c 3 rfl; have xwr4 := Xw.c 4 rfl; have xwr5 := Xw.c 5 rfl; have xwr6 := Xw.c 6 rfl; have xwr7 := Xw.c 7 rfl; have xnr0 := Xn.c 0 rfl; have xnr1 := Xn.c 1 rfl; have xnr2 := Xn.c 2 rfl; have xnr3 := Xn.c 3 rfl; have xbr0 := Xb.c 0 rfl; have xbr1 := Xb.c 1 rfl; have xbr2 := Xb.c 2 rfl; have xbr3 := Xb.c 3 rfl; have xbr4 := Xb.c 4 rfl; have xbr5 := Xb.c 5 rfl; have xbr6 := Xb.c 6 rfl; have xbr7 := Xb.c 7 rfl; have xmr0 := Xm.c 0 rfl; have xmr1 := Xm.c 1 rfl; have xmr2 := Xm.c 2 rfl; have xmr3 := Xm.c 3 rfl; have xmr4 := Xm.c 4 rfl; have xmr5 := Xm.c 5 rfl; have xmr6 := Xm.c 6 rfl; have xmr7 := Xm.c 7 rfl; have xor0 := Xo.c 0 rfl; have xor1 := Xo.c 1 rfl; have xor2 := Xo.c 2 rfl; have xor3 := Xo.c 3 rfl; have xor4 := Xo.c 4 rfl; have xor5 := Xo.c 5 rfl; have xor6 := Xo.c 6 rfl; have xor7 := Xo.c 7 rfl
            go_wp2_with fail
            refine (DV _).mono ?_
            rintro e v19 ⟨rfl, hB⟩
            replace Xp := (Xp.step hB).alloc (.cells #[.int .u64 (ww3 x), .int .u64 (ww2 x), .int .u64 (ww1 x), .int .u64 (ww0 x), .int .u64 (ww3 y), .int .u64 (ww2 y), .int .u64 (ww1 y), .int .u64 (ww0 y)] 28)
            replace Xq := (Xq.step hB).alloc (.cells #[.int .u64 (ww3 x), .int .u64 (ww2 x), .int .u64 (ww1 x), .int .u64 (ww0 x), .int .u64 (ww3 y), .int .u64 (ww2 y), .int .u64 (ww1 y), .int .u64 (ww0 y)] 28)
            replace Xs := (Xs.step hB).alloc (.cells #[.int .u64 (ww3 x), .int .u64 (ww2 x), .int .u64 (ww1 x), .int .u64 (ww0 x), .int .u64 (ww3 y), .int .u64 (ww2 y), .int .u64 (ww1 y), .int .u64 (ww0 y)] 28)
            replace Xt := (Xt.step hB).alloc (.cells #[.int .u64 (ww3 x), .int .u64 (ww2 x), .int .u64 (ww1 x), .int .u64 (ww0 x), .int .u64 (ww3 y), .int .u64 (ww2 y), .int .u64 (ww1 y), .int .u64 (ww0 y)] 28)
            replace Xw := (Xw.step hB).alloc (.cells #[.int .u64 (ww3 x), .int .u64 (ww2 x), .int .u64 (ww1 x), .int .u64 (ww0 x), .int .u64 (ww3 y), .int .u64 (ww2 y), .int .u64 (ww1 y), .int .u64 (ww0 y)] 28)
            replace Xn := (Xn.step hB).alloc (.cells #[.int .u64 (ww3 x), .int .u64 (ww2 x), .int .u64 (ww1 x), .int .u64 (ww0 x), .int .u64 (ww3 y), .int .u64 (ww2 y), .int .u64 (ww1 y), .int .u64 (ww0 y)] 28)
            replace Xb := (Xb.step hB).alloc (.cells #[.int .u64 (ww3 x), .int .u64 (ww2 x), .int .u64 (ww1 x), .int .u64 (ww0 x), .int .u64 (ww3 y), .int .u64 (ww2 y), .int .u64 (ww1 y), .int .u64 (ww0 y)] 28)
            replace Xm := (Xm.step hB).alloc (.cells #[.int .u64 (ww3 x), .int .u64 (ww2 x), .int .u64 (ww1 x), .int .u64 (ww0 x), .int .u64 (ww3 y), .int .u64 (ww2 y), .int .u64 (ww1 y), .int .u64 (ww0 y)] 28)
            replace Xo := (Xo.step hB).alloc (.cells #[.int .u64 (ww3 x), .int .u64 (ww2 x), .int .u64 (ww1 x), .int .u64 (ww0 x), .int .u64 (ww3 y), .int .u64 (ww2 y), .int .u64 (ww1 y), .int .u64 (ww0 y)] 28)
            have Xd := Blk.new v19 [.int .u64 (ww3 x), .int .u64 (ww2 x), .int .u64 (ww1 x), .int .u64 (ww0 x), .int .u64 (ww3 y), .int .u64 (ww2 y), .int .u64 (ww1 y), .int .u64 (ww0 y)] 28 rfl
            replace HB := (HB.trans (hB.mono HB.size)).alloc (HB.trans (hB.mono HB.size)).size (.cells #[.int .u64 (ww3 x), .int .u64 (ww2 x), .int .u64 (ww1 x), .int .u64 (ww0 x), .int .u64 (ww3 y), .int .u64 (ww2 y), .int .u64 (ww1 y), .int .u64 (ww0 y)] 28)
            clear hB xpr0 xpr1 xpr2 xpr3 xpr4 xpr5 xpr6 xpr7 xqr0 xqr1 xqr2 xqr3 xqr4 xqr5 xqr6 xqr7 xsr0 xsr1 xsr2 xsr3 xsr4 xsr5 xsr6 xsr7 xtr0 xtr1 xtr2 xtr3 xtr4 xtr5 xtr6 xtr7 xwr0 xwr1 xwr2 xwr3 xwr4 xwr5 xwr6 xwr7 xnr0 xnr1 xnr2 xnr3 xbr0 xbr1 xbr2 xbr3 xbr4 xbr5 xbr6 xbr7 xmr0 xmr1 xmr2 xmr3 xmr4 xmr5 xmr6 xmr7 xor0 xor1 xor2 xor3 xor4 xor5 xor6 xor7
            have xpr0 := Xp.c 0 rfl; have xpr1 := Xp.c 1 rfl; have xpr2 := Xp.c 2 rfl; have xpr3 := Xp.c 3 rfl; have xpr4 := Xp.c 4 rfl; have xpr5 := Xp.c 5 rfl; have xpr6 := Xp.c 6 rfl; have xpr7 := Xp.c 7 rfl; have xqr0 := Xq.c 0 rfl; have xqr1 := Xq.c 1 rfl; have xqr2 := Xq.c 2 rfl; have xqr3 := Xq.c 3 rfl; have xqr4 := Xq.c 4 rfl; have xqr5 := Xq.c 5 rfl; have xqr6 := Xq.c 6 rfl; have xqr7 := Xq.c 7 rfl; have xsr0 := Xs.c 0 rfl; have xsr1 := Xs.c 1 rfl; have xsr2 := Xs.c 2 rfl; have xsr3 := Xs.c 3 rfl; have xsr4 := Xs.c 4 rfl; have xsr5 := Xs.c 5 rfl; have xsr6 := Xs.c 6 rfl; have xsr7 := Xs.c 7 rfl; have xtr0 := Xt.c 0 rfl; have xtr1 := Xt.c 1 rfl; have xtr2 := Xt.c 2 rfl; have xtr3 := Xt.c 3 rfl; have xtr4 := Xt.c 4 rfl; have xtr5 := Xt.c 5 rfl; have xtr6 := Xt.c 6 rfl; have xtr7 := Xt.c 7 rfl; have xwr0 := Xw.c 0 rfl; have xwr1 := Xw.c 1 rfl; have xwr2 := Xw.c 2 rfl; have xwr3 := Xw.c 3 rfl; have xwr4 := Xw.c 4 rfl; have xwr5 := Xw.c 5 rfl; have xwr6 := Xw.c 6 rfl; have xwr7 := Xw.c 7 rfl; have xnr0 := Xn.c 0 rfl; have xnr1 := Xn.c 1 rfl; have xnr2 := Xn.c 2 rfl; have xnr3 := Xn.c 3 rfl; have xbr0 := Xb.c 0 rfl; have xbr1 := Xb.c 1 rfl; have xbr2 := Xb.c 2 rfl; have xbr3 := Xb.c 3 rfl; have xbr4 := Xb.c 4 rfl; have xbr5 := Xb.c 5 rfl; have xbr6 := Xb.c 6 rfl; have xbr7 := Xb.c 7 rfl; have xmr0 := Xm.c 0 rfl; have xmr1 := Xm.c 1 rfl; have xmr2 := Xm.c 2 rfl; have xmr3 := Xm.c 3 rfl; have xmr4 := Xm.c 4 rfl; have xmr5 := Xm.c 5 rfl; have xmr6 := Xm.c 6 rfl; have xmr7 := Xm.c 7 rfl; have xor0 := Xo.c 0 rfl; have xor1 := Xo.c 1 rfl; have xor2 := Xo.c 2 rfl; have xor3 := Xo.c 3 rfl; have xor4 := Xo.c 4 rfl; have xor5 := Xo.c 5 rfl; have xor6 := Xo.c 6 rfl; have xor7 := Xo.c 7 rfl; have xdr0 := Xd.c 0 rfl; have xdr1 := Xd.c 1 rfl; have xdr2 := Xd.c 2 rfl; have xdr3 := Xd.c 3 rfl; have xdr4 := Xd.c 4 rfl; have xdr5 := Xd.c 5 rfl; have xdr6 := Xd.c 6 rfl; have xdr7 := Xd.c 7 rfl
            go_wp2_with fail
            refine (OK _).mono ?_
            rintro e v20 ⟨rfl, hB⟩
            replace Xp := Xp.step hB
            replace Xq := Xq.step hB
            replace Xs := Xs.step hB
            replace Xt := Xt.step hB
            replace Xw := Xw.step hB
            replace Xn := Xn.step hB
            replace Xb := Xb.step hB
            replace Xm := Xm.step hB
            replace Xo := Xo.step hB
            replace Xd := Xd.step hB
            replace HB := HB.trans (hB.mono HB.size)
            clear hB xpr0 xpr1 xpr2 xpr3 xpr4 xpr5 xpr6 xpr7 xqr0 xqr1 xqr2 xqr3 xqr4 xqr5 xqr6 xqr7 xsr0 xsr1 xsr2 xsr3 xsr4 xsr5 xsr6 xsr7 xtr0 xtr1 xtr2 xtr3 xtr4 xtr5 xtr6 xtr7 xwr0 xwr1 xwr2 xwr3 xwr4 xwr5 xwr6 xwr7 xnr0 xnr1 xnr2 xnr3 xbr0 xbr1 xbr2 xbr3 xbr4 xbr5 xbr6 xbr7 xmr0 xmr1 xmr2 xmr3 xmr4 xmr5 xmr6 xmr7 xor0 xor1 xor2 xor3 xor4 xor5 xor6 xor7 xdr0 xdr1 xdr2 xdr3 xdr4 xdr5 xdr6 xdr7
            have xpr0 := Xp.c 0 rfl; have xpr1 := Xp.c 1 rfl; have xpr2 := Xp.c 2 rfl; have xpr3 := Xp.c 3 rfl; have xpr4 := Xp.c 4 rfl; have xpr5 := Xp.c 5 rfl; have xpr6 := Xp.c 6 rfl; have xpr7 := Xp.c 7 rfl; have xqr0 := Xq.c 0 rfl; have xqr1 := Xq.c 1 rfl; have xqr2 := Xq.c 2 rfl; have xqr3 := Xq.c 3 rfl; have xqr4 := Xq.c 4 rfl; have xqr5 := Xq.c 5 rfl; have xqr6 := Xq.c 6 rfl; have xqr7 := Xq.c 7 rfl; have xsr0 := Xs.c 0 rfl; have xsr1 := Xs.c 1 rfl; have xsr2 := Xs.c 2 rfl; have xsr3 := Xs.c 3 rfl; have xsr4 := Xs.c 4 rfl; have xsr5 := Xs.c 5 rfl; have xsr6 := Xs.c 6 rfl; have xsr7 := Xs.c 7 rfl; have xtr0 := Xt.c 0 rfl; have xtr1 := Xt.c 1 rfl; have xtr2 := Xt.c 2 rfl; have xtr3 := Xt.c 3 rfl; have xtr4 := Xt.c 4 rfl; have xtr5 := Xt.c 5 rfl; have xtr6 := Xt.c 6 rfl; have xtr7 := Xt.c 7 rfl; have xwr0 := Xw.c 0 rfl; have xwr1 := Xw.c 1 rfl; have xwr2 := Xw.c 2 rfl; have xwr3 := Xw.c 3 rfl; have xwr4 := Xw.c 4 rfl; have xwr5 := Xw.c 5 rfl; have xwr6 := Xw.c 6 rfl; have xwr7 := Xw.c 7 rfl; have xnr0 := Xn.c 0 rfl; have xnr1 := Xn.c 1 rfl; have xnr2 := Xn.c 2 rfl; have xnr3 := Xn.c 3 rfl; have xbr0 := Xb.c 0 rfl; have xbr1 := Xb.c 1 rfl; have xbr2 := Xb.c 2 rfl; have xbr3 := Xb.c 3 rfl; have xbr4 := Xb.c 4 rfl; have xbr5 := Xb.c 5 rfl; have xbr6 := Xb.c 6 rfl; have xbr7 := Xb.c 7 rfl; have xmr0 := Xm.c 0 rfl; have xmr1 := Xm.c 1 rfl; have xmr2 := Xm.c 2 rfl; have xmr3 := Xm.c 3 rfl; have xmr4 := Xm.c 4 rfl; have xmr5 := Xm.c 5 rfl; have xmr6 := Xm.c 6 rfl; have xmr7 := Xm.c 7 rfl; have xor0 := Xo.c 0 rfl; have xor1 := Xo.c 1 rfl; have xor2 := Xo.c 2 rfl; have xor3 := Xo.c 3 rfl; have xor4 := Xo.c 4 rfl; have xor5 := Xo.c 5 rfl; have xor6 := Xo.c 6 rfl; have xor7 := Xo.c 7 rfl; have xdr0 := Xd.c 0 rfl; have xdr1 := Xd.c 1 rfl; have xdr2 := Xd.c 2 rfl; have xdr3 := Xd.c 3 rfl; have xdr4 := Xd.c 4 rfl; have xdr5 := Xd.c 5 rfl; have xdr6 := Xd.c 6 rfl; have xdr7 := Xd.c 7 rfl
            clear Xp Xq Xs Xt Xw Xn Xb Xm Xo Xd
            go_wp2
            go_ret
            exact ⟨rfl, HB⟩
end Go.Proofs.Ytgeaklaocifhcaa
