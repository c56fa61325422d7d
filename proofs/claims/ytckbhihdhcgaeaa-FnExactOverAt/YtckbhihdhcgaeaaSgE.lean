/- Where a segment stands over a point: both sides. -/
import Derived.Test.YtckbhihdhcgaeaaSgC
namespace Go.Proofs.Ytckbhihdhcgaeaa
open Go.RowKit
/-- Where a segment stands over a right point. -/
def overJ (a b c d x y z : Int) : Int :=
  if cmpI (x * 1) (a * z) < 0 then 2 else if cmpI (x * 1) (c * z) > 0 then 2
  else if a < c then -turnI a b 1 c d 1 x y z
  else if cmpI (y * 1) (b * z) < 0 then 1 else if cmpI (y * 1) (d * z) > 0 then -1 else 0
/-- Where a segment stands over a point; 2 where one of them is not right. -/
def overI (a b c d x y z : Int) : Int := if segOk a b c d && ptB x y z then overJ a b c d x y z else 2
theorem cmpI_in (x y : Int) : cmpI x y = -1 ∨ cmpI x y = 0 ∨ cmpI x y = 1 := by unfold cmpI; split <;> (try split) <;> simp
set_option maxRecDepth 100000 in
set_option maxHeartbeats 2000000 in
theorem overAt_det (a b c d x y z : Int) (i1 : -1000000 ≤ a ∧ a ≤ 1000000) (i2 : -1000000 ≤ b ∧ b ≤ 1000000) (i3 : -1000000 ≤ c ∧ c ≤ 1000000) (i4 : -1000000 ≤ d ∧ d ≤ 1000000) (sx : small x = true) (sy : small y = true) (sz : small z = true) (w : World) : Calls Try.prog 107 #[Sg a b c d, PV x y z] w (VP (.int .i64 (overJ a b c d x y z)) w) := by
  have T0 : ArgsB w ((w.alloc (.cells #[.int .i64 a, .int .i64 b, .int .i64 c, .int .i64 d] 56)).alloc (.cells #[.int .u64 (ww3 x), .int .u64 (ww2 x), .int .u64 (ww1 x), .int .u64 (ww0 x), .int .u64 (ww3 y), .int .u64 (ww2 y), .int .u64 (ww1 y), .int .u64 (ww0 y), .int .u64 (ww3 z), .int .u64 (ww2 z), .int .u64 (ww1 z), .int .u64 (ww0 z)] 30)) [[.int .i64 a, .int .i64 b, .int .i64 c, .int .i64 d], [.int .u64 (ww3 x), .int .u64 (ww2 x), .int .u64 (ww1 x), .int .u64 (ww0 x), .int .u64 (ww3 y), .int .u64 (ww2 y), .int .u64 (ww1 y), .int .u64 (ww0 y), .int .u64 (ww3 z), .int .u64 (ww2 z), .int .u64 (ww1 z), .int .u64 (ww0 z)]] := ar2 _ _ _ _ w
  have sa : small a = true := small_int (by omega) (by omega)
  have sb : small b = true := small_int (by omega) (by omega)
  have sc : small c = true := small_int (by omega) (by omega)
  have sd : small d = true := small_int (by omega) (by omega)
  have s1 : small 1 = true := by decide
  have EN := fun w => ends_det a b c d (by omega) (by omega) (by omega) (by omega) (by omega) (by omega) (by omega) (by omega) w
  have C1 := byX_det x y z a b 1 sx sz sa s1
  have C2 := byX_det x y z c d 1 sx sz sc s1
  have C3 := turn_det a b 1 c d 1 x y z sa sb s1 sc sd s1 sx sy sz
  rw [turn_same] at C3
  have C4 := byY_det x y z a b 1 sy sz sb s1
  have C5 := byY_det x y z c d 1 sy sz sd s1
  have o3in := cmpI_in
  have HJ : Hid (overJ a b c d x y z = if cmpI (x * 1) (a * z) < 0 then 2 else if cmpI (x * 1) (c * z) > 0 then 2 else if a < c then -turnI a b 1 c d 1 x y z else if cmpI (y * 1) (b * z) < 0 then 1 else if cmpI (y * 1) (d * z) > 0 then -1 else 0) := rfl
  have H3 : turnI a b 1 c d 1 x y z = -1 ∨ turnI a b 1 c d 1 x y z = 0 ∨ turnI a b 1 c d 1 x y z = 1 := cmpI_in _ _
  generalize overJ a b c d x y z = J at *
  generalize cmpI (x * 1) (a * z) = o1 at *
  generalize cmpI (x * 1) (c * z) = o2 at *
  generalize turnI a b 1 c d 1 x y z = o3 at *
  generalize cmpI (y * 1) (b * z) = o4 at *
  generalize cmpI (y * 1) (d * z) = o5 at *
  clear i1 i2 i3 i4 sx sy sz sa sb sc sd s1 o3in
  go_enter Try.func107, Try.ntmps107
  go_wp2_with fail
  generalize ((w.alloc (.cells #[.int .i64 a, .int .i64 b, .int .i64 c, .int .i64 d] 56)).alloc (.cells #[.int .u64 (ww3 x), .int .u64 (ww2 x), .int .u64 (ww1 x), .int .u64 (ww0 x), .int .u64 (ww3 y), .int .u64 (ww2 y), .int .u64 (ww1 y), .int .u64 (ww0 y), .int .u64 (ww3 z), .int .u64 (ww2 z), .int .u64 (ww1 z), .int .u64 (ww0 z)] 30)) = W at *
  refine (EN _).mono ?_
  rintro e w1 ⟨rfl, hB⟩
  replace T0 := T0.step hB
  clear hB EN
  have X1 := (Blk.new w1 [.int .u64 (ww3 a), .int .u64 (ww2 a), .int .u64 (ww1 a), .int .u64 (ww0 a), .int .u64 (ww3 b), .int .u64 (ww2 b), .int .u64 (ww1 b), .int .u64 (ww0 b), .int .u64 (ww3 1), .int .u64 (ww2 1), .int .u64 (ww1 1), .int .u64 (ww0 1)] 30 rfl).alloc (.cells #[.int .u64 (ww3 c), .int .u64 (ww2 c), .int .u64 (ww1 c), .int .u64 (ww0 c), .int .u64 (ww3 d), .int .u64 (ww2 d), .int .u64 (ww1 d), .int .u64 (ww0 d), .int .u64 (ww3 1), .int .u64 (ww2 1), .int .u64 (ww1 1), .int .u64 (ww0 1)] 30)
  have X2 := Blk.new (w1.alloc (.cells #[.int .u64 (ww3 a), .int .u64 (ww2 a), .int .u64 (ww1 a), .int .u64 (ww0 a), .int .u64 (ww3 b), .int .u64 (ww2 b), .int .u64 (ww1 b), .int .u64 (ww0 b), .int .u64 (ww3 1), .int .u64 (ww2 1), .int .u64 (ww1 1), .int .u64 (ww0 1)] 30)) [.int .u64 (ww3 c), .int .u64 (ww2 c), .int .u64 (ww1 c), .int .u64 (ww0 c), .int .u64 (ww3 d), .int .u64 (ww2 d), .int .u64 (ww1 d), .int .u64 (ww0 d), .int .u64 (ww3 1), .int .u64 (ww2 1), .int .u64 (ww1 1), .int .u64 (ww0 1)] 30 rfl
  have x2e : (w1.alloc (.cells #[.int .u64 (ww3 a), .int .u64 (ww2 a), .int .u64 (ww1 a), .int .u64 (ww0 a), .int .u64 (ww3 b), .int .u64 (ww2 b), .int .u64 (ww1 b), .int .u64 (ww0 b), .int .u64 (ww3 1), .int .u64 (ww2 1), .int .u64 (ww1 1), .int .u64 (ww0 1)] 30)).heap.size = w1.heap.size + 1 := by simp
  rw [x2e] at X2
  clear x2e
  replace T0 := (T0.alloc (.cells #[.int .u64 (ww3 a), .int .u64 (ww2 a), .int .u64 (ww1 a), .int .u64 (ww0 a), .int .u64 (ww3 b), .int .u64 (ww2 b), .int .u64 (ww1 b), .int .u64 (ww0 b), .int .u64 (ww3 1), .int .u64 (ww2 1), .int .u64 (ww1 1), .int .u64 (ww0 1)] 30)).alloc (.cells #[.int .u64 (ww3 c), .int .u64 (ww2 c), .int .u64 (ww1 c), .int .u64 (ww0 c), .int .u64 (ww3 d), .int .u64 (ww2 d), .int .u64 (ww1 d), .int .u64 (ww0 d), .int .u64 (ww3 1), .int .u64 (ww2 1), .int .u64 (ww1 1), .int .u64 (ww0 1)] 30)
  have Y0 : Blk _ (w.heap.size + 1) _ := T0.b 1 rfl; have q0 := Y0.c 0 rfl; have k0 := X1.c 0 rfl; have l0 := X2.c 0 rfl; have q1 := Y0.c 1 rfl; have k1 := X1.c 1 rfl; have l1 := X2.c 1 rfl; have q2 := Y0.c 2 rfl; have k2 := X1.c 2 rfl; have l2 := X2.c 2 rfl; have q3 := Y0.c 3 rfl; have k3 := X1.c 3 rfl; have l3 := X2.c 3 rfl; have q4 := Y0.c 4 rfl; have k4 := X1.c 4 rfl; have l4 := X2.c 4 rfl; have q5 := Y0.c 5 rfl; have k5 := X1.c 5 rfl; have l5 := X2.c 5 rfl; have q6 := Y0.c 6 rfl; have k6 := X1.c 6 rfl; have l6 := X2.c 6 rfl; have q7 := Y0.c 7 rfl; have k7 := X1.c 7 rfl; have l7 := X2.c 7 rfl; have q8 := Y0.c 8 rfl; have k8 := X1.c 8 rfl; have l8 := X2.c 8 rfl; have q9 := Y0.c 9 rfl; have k9 := X1.c 9 rfl; have l9 := X2.c 9 rfl; have q10 := Y0.c 10 rfl; have k10 := X1.c 10 rfl; have l10 := X2.c 10 rfl; have q11 := Y0.c 11 rfl; have k11 := X1.c 11 rfl; have l11 := X2.c 11 rfl; have ql := Y0.lt; clear Y0
  go_wp2_with fail
  generalize ((w1.alloc (.cells #[.int .u64 (ww3 a), .int .u64 (ww2 a), .int .u64 (ww1 a), .int .u64 (ww0 a), .int .u64 (ww3 b), .int .u64 (ww2 b), .int .u64 (ww1 b), .int .u64 (ww0 b), .int .u64 (ww3 1), .int .u64 (ww2 1), .int .u64 (ww1 1), .int .u64 (ww0 1)] 30)).alloc (.cells #[.int .u64 (ww3 c), .int .u64 (ww2 c), .int .u64 (ww1 c), .int .u64 (ww0 c), .int .u64 (ww3 d), .int .u64 (ww2 d), .int .u64 (ww1 d), .int .u64 (ww0 d), .int .u64 (ww3 1), .int .u64 (ww2 1), .int .u64 (ww1 1), .int .u64 (ww0 1)] 30)) = W1 at *
  generalize w1.heap.size = g1 at *
  refine (C1 _).mono ?_
  rintro e w2 ⟨rfl, hB⟩
  replace T0 := T0.step hB; replace X1 := X1.step hB; replace X2 := X2.step hB
  clear hB C1 q0 k0 l0 q1 k1 l1 q2 k2 l2 q3 k3 l3 q4 k4 l4 q5 k5 l5 q6 k6 l6 q7 k7 l7 q8 k8 l8 q9 k9 l9 q10 k10 l10 q11 k11 l11 ql
  by_cases h1 : o1 < 0
  · have HO : Hid (J = 2) := by show _ = _; rw [HJ.out, if_pos (show o1 < 0 by omega)]
    have HB := T0.below
    clear T0 X1 X2 
    go_wp2
    go_ret
    exact ⟨by rw [HO.out]; rfl, HB⟩
  · have K1 : Hid (¬ o1 < 0) := h1
    have Y0 : Blk _ (w.heap.size + 1) _ := T0.b 1 rfl; have q0 := Y0.c 0 rfl; have k0 := X1.c 0 rfl; have l0 := X2.c 0 rfl; have q1 := Y0.c 1 rfl; have k1 := X1.c 1 rfl; have l1 := X2.c 1 rfl; have q2 := Y0.c 2 rfl; have k2 := X1.c 2 rfl; have l2 := X2.c 2 rfl; have q3 := Y0.c 3 rfl; have k3 := X1.c 3 rfl; have l3 := X2.c 3 rfl; have q4 := Y0.c 4 rfl; have k4 := X1.c 4 rfl; have l4 := X2.c 4 rfl; have q5 := Y0.c 5 rfl; have k5 := X1.c 5 rfl; have l5 := X2.c 5 rfl; have q6 := Y0.c 6 rfl; have k6 := X1.c 6 rfl; have l6 := X2.c 6 rfl; have q7 := Y0.c 7 rfl; have k7 := X1.c 7 rfl; have l7 := X2.c 7 rfl; have q8 := Y0.c 8 rfl; have k8 := X1.c 8 rfl; have l8 := X2.c 8 rfl; have q9 := Y0.c 9 rfl; have k9 := X1.c 9 rfl; have l9 := X2.c 9 rfl; have q10 := Y0.c 10 rfl; have k10 := X1.c 10 rfl; have l10 := X2.c 10 rfl; have q11 := Y0.c 11 rfl; have k11 := X1.c 11 rfl; have l11 := X2.c 11 rfl; have ql := Y0.lt; clear Y0
    go_wp2_with fail
    refine (C2 _).mono ?_
    rintro e w3 ⟨rfl, hB⟩
    replace T0 := T0.step hB; replace X1 := X1.step hB; replace X2 := X2.step hB
    clear hB q0 k0 l0 q1 k1 l1 q2 k2 l2 q3 k3 l3 q4 k4 l4 q5 k5 l5 q6 k6 l6 q7 k7 l7 q8 k8 l8 q9 k9 l9 q10 k10 l10 q11 k11 l11 ql
    by_cases h2 : o2 > 0
    · have HO : Hid (J = 2) := by show _ = _; rw [HJ.out, if_neg (show ¬ o1 < 0 by have := K1.out; omega), if_pos (show o2 > 0 by omega)]
      have HB := T0.below
      clear T0 X1 X2 
      go_wp2
      go_ret
      exact ⟨by rw [HO.out]; rfl, HB⟩
    · have K2 : Hid (¬ o2 > 0) := h2
      have Y1 : Blk _ w.heap.size _ := T0.b 0 rfl; have g0 := Y1.c 0 rfl; have g1 := Y1.c 1 rfl; have g2 := Y1.c 2 rfl; have g3 := Y1.c 3 rfl; clear Y1
      by_cases h3 : a < c
      · have HO : Hid (J = -o3) := by show _ = _; rw [HJ.out, if_neg (show ¬ o1 < 0 by have := K1.out; omega), if_neg (show ¬ o2 > 0 by have := K2.out; omega), if_pos (show a < c by omega)]
        have Y0 : Blk _ (w.heap.size + 1) _ := T0.b 1 rfl; have q0 := Y0.c 0 rfl; have k0 := X1.c 0 rfl; have l0 := X2.c 0 rfl; have q1 := Y0.c 1 rfl; have k1 := X1.c 1 rfl; have l1 := X2.c 1 rfl; have q2 := Y0.c 2 rfl; have k2 := X1.c 2 rfl; have l2 := X2.c 2 rfl; have q3 := Y0.c 3 rfl; have k3 := X1.c 3 rfl; have l3 := X2.c 3 rfl; have q4 := Y0.c 4 rfl; have k4 := X1.c 4 rfl; have l4 := X2.c 4 rfl; have q5 := Y0.c 5 rfl; have k5 := X1.c 5 rfl; have l5 := X2.c 5 rfl; have q6 := Y0.c 6 rfl; have k6 := X1.c 6 rfl; have l6 := X2.c 6 rfl; have q7 := Y0.c 7 rfl; have k7 := X1.c 7 rfl; have l7 := X2.c 7 rfl; have q8 := Y0.c 8 rfl; have k8 := X1.c 8 rfl; have l8 := X2.c 8 rfl; have q9 := Y0.c 9 rfl; have k9 := X1.c 9 rfl; have l9 := X2.c 9 rfl; have q10 := Y0.c 10 rfl; have k10 := X1.c 10 rfl; have l10 := X2.c 10 rfl; have q11 := Y0.c 11 rfl; have k11 := X1.c 11 rfl; have l11 := X2.c 11 rfl; have ql := Y0.lt; clear Y0
        go_wp2_with fail
        refine (C3 _).mono ?_
        rintro e w4 ⟨rfl, hB⟩
        replace T0 := T0.step hB; replace X1 := X1.step hB; replace X2 := X2.step hB
        clear hB q0 k0 l0 q1 k1 l1 q2 k2 l2 q3 k3 l3 q4 k4 l4 q5 k5 l5 q6 k6 l6 q7 k7 l7 q8 k8 l8 q9 k9 l9 q10 k10 l10 q11 k11 l11 ql
        have n1 : -1 ≤ o3 := by omega
        have n2 : o3 ≤ 1 := by omega
        have HB := T0.below
        clear T0 X1 X2 g0 g1 g2 g3
        go_wp2
        go_ret
        exact ⟨by rw [HO.out]; rfl, HB⟩
      · have K3 : Hid (¬ a < c) := h3
        have Y0 : Blk _ (w.heap.size + 1) _ := T0.b 1 rfl; have q0 := Y0.c 0 rfl; have k0 := X1.c 0 rfl; have l0 := X2.c 0 rfl; have q1 := Y0.c 1 rfl; have k1 := X1.c 1 rfl; have l1 := X2.c 1 rfl; have q2 := Y0.c 2 rfl; have k2 := X1.c 2 rfl; have l2 := X2.c 2 rfl; have q3 := Y0.c 3 rfl; have k3 := X1.c 3 rfl; have l3 := X2.c 3 rfl; have q4 := Y0.c 4 rfl; have k4 := X1.c 4 rfl; have l4 := X2.c 4 rfl; have q5 := Y0.c 5 rfl; have k5 := X1.c 5 rfl; have l5 := X2.c 5 rfl; have q6 := Y0.c 6 rfl; have k6 := X1.c 6 rfl; have l6 := X2.c 6 rfl; have q7 := Y0.c 7 rfl; have k7 := X1.c 7 rfl; have l7 := X2.c 7 rfl; have q8 := Y0.c 8 rfl; have k8 := X1.c 8 rfl; have l8 := X2.c 8 rfl; have q9 := Y0.c 9 rfl; have k9 := X1.c 9 rfl; have l9 := X2.c 9 rfl; have q10 := Y0.c 10 rfl; have k10 := X1.c 10 rfl; have l10 := X2.c 10 rfl; have q11 := Y0.c 11 rfl; have k11 := X1.c 11 rfl; have l11 := X2.c 11 rfl; have ql := Y0.lt; clear Y0
        go_wp2_with fail
        refine (C4 _).mono ?_
        rintro e w4 ⟨rfl, hB⟩
        replace T0 := T0.step hB; replace X1 := X1.step hB; replace X2 := X2.step hB
        clear hB q0 k0 l0 q1 k1 l1 q2 k2 l2 q3 k3 l3 q4 k4 l4 q5 k5 l5 q6 k6 l6 q7 k7 l7 q8 k8 l8 q9 k9 l9 q10 k10 l10 q11 k11 l11 ql
        by_cases h4 : o4 < 0
        · have HO : Hid (J = 1) := by show _ = _; rw [HJ.out, if_neg (show ¬ o1 < 0 by have := K1.out; omega), if_neg (show ¬ o2 > 0 by have := K2.out; omega), if_neg (show ¬ a < c by have := K3.out; omega), if_pos (show o4 < 0 by omega)]
          have HB := T0.below
          clear T0 X1 X2 
          go_wp2
          go_ret
          exact ⟨by rw [HO.out]; rfl, HB⟩
        · have K4 : Hid (¬ o4 < 0) := h4
          have Y0 : Blk _ (w.heap.size + 1) _ := T0.b 1 rfl; have q0 := Y0.c 0 rfl; have k0 := X1.c 0 rfl; have l0 := X2.c 0 rfl; have q1 := Y0.c 1 rfl; have k1 := X1.c 1 rfl; have l1 := X2.c 1 rfl; have q2 := Y0.c 2 rfl; have k2 := X1.c 2 rfl; have l2 := X2.c 2 rfl; have q3 := Y0.c 3 rfl; have k3 := X1.c 3 rfl; have l3 := X2.c 3 rfl; have q4 := Y0.c 4 rfl; have k4 := X1.c 4 rfl; have l4 := X2.c 4 rfl; have q5 := Y0.c 5 rfl; have k5 := X1.c 5 rfl; have l5 := X2.c 5 rfl; have q6 := Y0.c 6 rfl; have k6 := X1.c 6 rfl; have l6 := X2.c 6 rfl; have q7 := Y0.c 7 rfl; have k7 := X1.c 7 rfl; have l7 := X2.c 7 rfl; have q8 := Y0.c 8 rfl; have k8 := X1.c 8 rfl; have l8 := X2.c 8 rfl; have q9 := Y0.c 9 rfl; have k9 := X1.c 9 rfl; have l9 := X2.c 9 rfl; have q10 := Y0.c 10 rfl; have k10 := X1.c 10 rfl; have l10 := X2.c 10 rfl; have q11 := Y0.c 11 rfl; have k11 := X1.c 11 rfl; have l11 := X2.c 11 rfl; have ql := Y0.lt; clear Y0
          go_wp2_with fail
          refine (C5 _).mono ?_
          rintro e w5 ⟨rfl, hB⟩
          replace T0 := T0.step hB; replace X1 := X1.step hB; replace X2 := X2.step hB
          clear hB q0 k0 l0 q1 k1 l1 q2 k2 l2 q3 k3 l3 q4 k4 l4 q5 k5 l5 q6 k6 l6 q7 k7 l7 q8 k8 l8 q9 k9 l9 q10 k10 l10 q11 k11 l11 ql
          by_cases h5 : o5 > 0
          · have HO : Hid (J = -1) := by show _ = _; rw [HJ.out, if_neg (show ¬ o1 < 0 by have := K1.out; omega), if_neg (show ¬ o2 > 0 by have := K2.out; omega), if_neg (show ¬ a < c by have := K3.out; omega), if_neg (show ¬ o4 < 0 by have := K4.out; omega), if_pos (show o5 > 0 by omega)]
            have HB := T0.below
            clear T0 X1 X2 
            go_wp2
            go_ret
            exact ⟨by rw [HO.out]; rfl, HB⟩
          · have K5 : Hid (¬ o5 > 0) := h5
            have HO : Hid (J = 0) := by show _ = _; rw [HJ.out, if_neg (show ¬ o1 < 0 by have := K1.out; omega), if_neg (show ¬ o2 > 0 by have := K2.out; omega), if_neg (show ¬ a < c by have := K3.out; omega), if_neg (show ¬ o4 < 0 by have := K4.out; omega), if_neg (show ¬ o5 > 0 by have := K5.out; omega)]
            have HB := T0.below
            clear T0 X1 X2 
            go_wp2
            go_ret
            exact ⟨by rw [HO.out]; rfl, HB⟩
set_option maxRecDepth 100000 in
set_option maxHeartbeats 2000000 in
theorem implOverAt_det (a b c d x y z : Int) (hx : told x = true) (hy : told y = true) (hz : told z = true) (w : World) : Calls Try.prog 46 #[Sg a b c d, PV x y z] w (VP (.int .i64 (overI a b c d x y z)) w) := by
  have T0 : ArgsB w ((w.alloc (.cells #[.int .i64 a, .int .i64 b, .int .i64 c, .int .i64 d] 56)).alloc (.cells #[.int .u64 (ww3 x), .int .u64 (ww2 x), .int .u64 (ww1 x), .int .u64 (ww0 x), .int .u64 (ww3 y), .int .u64 (ww2 y), .int .u64 (ww1 y), .int .u64 (ww0 y), .int .u64 (ww3 z), .int .u64 (ww2 z), .int .u64 (ww1 z), .int .u64 (ww0 z)] 30)) [[.int .i64 a, .int .i64 b, .int .i64 c, .int .i64 d], [.int .u64 (ww3 x), .int .u64 (ww2 x), .int .u64 (ww1 x), .int .u64 (ww0 x), .int .u64 (ww3 y), .int .u64 (ww2 y), .int .u64 (ww1 y), .int .u64 (ww0 y), .int .u64 (ww3 z), .int .u64 (ww2 z), .int .u64 (ww1 z), .int .u64 (ww0 z)]] := ar2 _ _ _ _ w
  have SO := fun w => implSegOk_any a b c d _ rfl w
  have PO := implPointOk_det x y z hx hy hz
  clear hx hy hz
  by_cases hs : segOk a b c d = true
  · obtain ⟨i1, i2, i3, i4⟩ := in6_seg hs
    by_cases hp : ptB x y z = true
    · have HO : Hid (overI a b c d x y z = overJ a b c d x y z) := by show _ = _; unfold overI; rw [hs, hp]; rfl
      obtain ⟨pz, sx, sy, sz⟩ := ptB_small hp
      rw [hs] at SO
      rw [hp] at PO
      have C := overAt_det a b c d x y z i1 i2 i3 i4 sx sy sz
      clear i1 i2 i3 i4 sx sy sz
      clear hs hp pz
      go_enter Try.func46, Try.ntmps46
      go_wp2_with fail
      generalize ((w.alloc (.cells #[.int .i64 a, .int .i64 b, .int .i64 c, .int .i64 d] 56)).alloc (.cells #[.int .u64 (ww3 x), .int .u64 (ww2 x), .int .u64 (ww1 x), .int .u64 (ww0 x), .int .u64 (ww3 y), .int .u64 (ww2 y), .int .u64 (ww1 y), .int .u64 (ww0 y), .int .u64 (ww3 z), .int .u64 (ww2 z), .int .u64 (ww1 z), .int .u64 (ww0 z)] 30)) = W at *
      refine (SO _).mono ?_
      rintro e w1 ⟨rfl, hB⟩
      replace T0 := T0.step hB
      clear hB SO
      have Y0 : Blk _ (w.heap.size + 1) _ := T0.b 1 rfl; have q0 := Y0.c 0 rfl; have q1 := Y0.c 1 rfl; have q2 := Y0.c 2 rfl; have q3 := Y0.c 3 rfl; have q4 := Y0.c 4 rfl; have q5 := Y0.c 5 rfl; have q6 := Y0.c 6 rfl; have q7 := Y0.c 7 rfl; have q8 := Y0.c 8 rfl; have q9 := Y0.c 9 rfl; have q10 := Y0.c 10 rfl; have q11 := Y0.c 11 rfl; have ql := Y0.lt; clear Y0
      go_wp2_with fail
      refine (PO _).mono ?_
      rintro e w2 ⟨rfl, hB⟩
      replace T0 := T0.step hB
      clear hB PO q0 q1 q2 q3 q4 q5 q6 q7 q8 q9 q10 q11 ql
      have Y1 : Blk _ w.heap.size _ := T0.b 0 rfl; have g0 := Y1.c 0 rfl; have g1 := Y1.c 1 rfl; have g2 := Y1.c 2 rfl; have g3 := Y1.c 3 rfl; clear Y1
      have Y0 : Blk _ (w.heap.size + 1) _ := T0.b 1 rfl; have q0 := Y0.c 0 rfl; have q1 := Y0.c 1 rfl; have q2 := Y0.c 2 rfl; have q3 := Y0.c 3 rfl; have q4 := Y0.c 4 rfl; have q5 := Y0.c 5 rfl; have q6 := Y0.c 6 rfl; have q7 := Y0.c 7 rfl; have q8 := Y0.c 8 rfl; have q9 := Y0.c 9 rfl; have q10 := Y0.c 10 rfl; have q11 := Y0.c 11 rfl; have ql := Y0.lt; clear Y0
      go_wp2_with fail
      refine (C _).mono ?_
      rintro e w3 ⟨rfl, hB⟩
      have HB := (T0.step hB).below
      clear hB C T0 q0 q1 q2 q3 q4 q5 q6 q7 q8 q9 q10 q11 ql g0 g1 g2 g3
      go_wp2
      go_ret
      exact ⟨by rw [HO.out]; rfl, HB⟩
    · replace hp := Bool.eq_false_iff.2 hp
      have HO : Hid (overI a b c d x y z = 2) := by show _ = _; unfold overI; rw [hs, hp]; rfl
      rw [hs] at SO
      rw [hp] at PO
      clear hs hp i1 i2 i3 i4
      go_enter Try.func46, Try.ntmps46
      go_wp2_with fail
      generalize ((w.alloc (.cells #[.int .i64 a, .int .i64 b, .int .i64 c, .int .i64 d] 56)).alloc (.cells #[.int .u64 (ww3 x), .int .u64 (ww2 x), .int .u64 (ww1 x), .int .u64 (ww0 x), .int .u64 (ww3 y), .int .u64 (ww2 y), .int .u64 (ww1 y), .int .u64 (ww0 y), .int .u64 (ww3 z), .int .u64 (ww2 z), .int .u64 (ww1 z), .int .u64 (ww0 z)] 30)) = W at *
      refine (SO _).mono ?_
      rintro e w1 ⟨rfl, hB⟩
      replace T0 := T0.step hB
      clear hB SO
      have Y0 : Blk _ (w.heap.size + 1) _ := T0.b 1 rfl; have q0 := Y0.c 0 rfl; have q1 := Y0.c 1 rfl; have q2 := Y0.c 2 rfl; have q3 := Y0.c 3 rfl; have q4 := Y0.c 4 rfl; have q5 := Y0.c 5 rfl; have q6 := Y0.c 6 rfl; have q7 := Y0.c 7 rfl; have q8 := Y0.c 8 rfl; have q9 := Y0.c 9 rfl; have q10 := Y0.c 10 rfl; have q11 := Y0.c 11 rfl; have ql := Y0.lt; clear Y0
      go_wp2_with fail
      refine (PO _).mono ?_
      rintro e w2 ⟨rfl, hB⟩
      have HB := (T0.step hB).below
      clear hB PO T0 q0 q1 q2 q3 q4 q5 q6 q7 q8 q9 q10 q11 ql
      go_wp2
      go_ret
      exact ⟨by rw [HO.out]; rfl, HB⟩
  · replace hs := Bool.eq_false_iff.2 hs
    have HO : Hid (overI a b c d x y z = 2) := by show _ = _; unfold overI; rw [hs]; rfl
    rw [hs] at SO
    clear hs PO
    go_enter Try.func46, Try.ntmps46
    go_wp2_with fail
    generalize ((w.alloc (.cells #[.int .i64 a, .int .i64 b, .int .i64 c, .int .i64 d] 56)).alloc (.cells #[.int .u64 (ww3 x), .int .u64 (ww2 x), .int .u64 (ww1 x), .int .u64 (ww0 x), .int .u64 (ww3 y), .int .u64 (ww2 y), .int .u64 (ww1 y), .int .u64 (ww0 y), .int .u64 (ww3 z), .int .u64 (ww2 z), .int .u64 (ww1 z), .int .u64 (ww0 z)] 30)) = W at *
    refine (SO _).mono ?_
    rintro e w1 ⟨rfl, hB⟩
    have HB := (T0.step hB).below
    clear hB SO T0
    go_wp2
    go_ret
    exact ⟨by rw [HO.out]; rfl, HB⟩
end Go.Proofs.Ytckbhihdhcgaeaa
