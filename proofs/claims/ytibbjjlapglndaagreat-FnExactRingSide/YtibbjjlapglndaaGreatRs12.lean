/- Part 12 of the walks that the proof leans on. -/
import Derived.Test.YtibbjjlapglndaaGreatRs11
import Derived.Test.YtibbjjlapglndaaGreatRs7
import Derived.Test.YtibbjjlapglndaaGreatRs4
import Derived.Test.YtibbjjlapglndaaGreatRs9
import Derived.Test.YtibbjjlapglndaaGreatRs6
import Derived.Deep.RegionHeld3
import Derived.Deep.RegionWith
namespace Go.Proofs.YtibbjjlapglndaaGreat
open Go.RowKit
def overJ (a b c d x y z : Int) : Int :=
 if cmpI (x * 1) (a * z) < 0 then 2 else if cmpI (x * 1) (c * z) > 0 then 2
 else if a < c then -turnI a b 1 c d 1 x y z
 else if cmpI (y * 1) (b * z) < 0 then 1 else if cmpI (y * 1) (d * z) > 0 then -1 else 0
theorem cmpI_in (x y : Int) : cmpI x y = -1 ∨ cmpI x y = 0 ∨ cmpI x y = 1 := by unfold cmpI; split <;> (try split) <;> simp
set_option maxRecDepth 100000 in
set_option maxHeartbeats 2000000 in
theorem overAt_det (a b c d x y z : Int) (i1 : -1000000 ≤ a ∧ a ≤ 1000000) (i2 : -1000000 ≤ b ∧ b ≤ 1000000) (i3 : -1000000 ≤ c ∧ c ≤ 1000000) (i4 : -1000000 ≤ d ∧ d ≤ 1000000) (sx : small x = true) (sy : small y = true) (sz : small z = true) (w : World) : Calls Tryz.prog 66 #[Sg a b c d, PV x y z] w (VP (.int .i64 (overJ a b c d x y z)) w) := by
 have T0 : ArgsB w ((w.alloc (.cells #[.int .i64 a, .int .i64 b, .int .i64 c, .int .i64 d] 83)).alloc (.cells #[.int .u64 (ww3 x), .int .u64 (ww2 x), .int .u64 (ww1 x), .int .u64 (ww0 x), .int .u64 (ww3 y), .int .u64 (ww2 y), .int .u64 (ww1 y), .int .u64 (ww0 y), .int .u64 (ww3 z), .int .u64 (ww2 z), .int .u64 (ww1 z), .int .u64 (ww0 z)] 38)) [[.int .i64 a, .int .i64 b, .int .i64 c, .int .i64 d], [.int .u64 (ww3 x), .int .u64 (ww2 x), .int .u64 (ww1 x), .int .u64 (ww0 x), .int .u64 (ww3 y), .int .u64 (ww2 y), .int .u64 (ww1 y), .int .u64 (ww0 y), .int .u64 (ww3 z), .int .u64 (ww2 z), .int .u64 (ww1 z), .int .u64 (ww0 z)]] := ar2 _ _ _ _ w
 have sa : small a = true := small_int (by omega) (by omega)
 have sb : small b = true := small_int (by omega) (by omega)
 have sc : small c = true := small_int (by omega) (by omega)
 have sd : small d = true := small_int (by omega) (by omega)
 have s1 : small 1 = true := by decide
 have EN := fun w => ends_det a b c d (by omega) (by omega) (by omega) (by omega) (by omega) (by omega) (by omega) (by omega) w
 have C1 := byX_det x y z a b 1 sx sz sa s1
 have C2 := byX_det x y z c d 1 sx sz sc s1
 have C3 := turn_det a b 1 c d 1 x y z sa sb s1 sc sd s1 sx sy sz
 rw [turn_same] at C3
 have C4 := byY_det x y z a b 1 sy sz sb s1
 have C5 := byY_det x y z c d 1 sy sz sd s1
 have o3in := cmpI_in
 have HJ : Hid (overJ a b c d x y z = if cmpI (x * 1) (a * z) < 0 then 2 else if cmpI (x * 1) (c * z) > 0 then 2 else if a < c then -turnI a b 1 c d 1 x y z else if cmpI (y * 1) (b * z) < 0 then 1 else if cmpI (y * 1) (d * z) > 0 then -1 else 0) := rfl
 have H3 : turnI a b 1 c d 1 x y z = -1 ∨ turnI a b 1 c d 1 x y z = 0 ∨ turnI a b 1 c d 1 x y z = 1 := cmpI_in _ _
 generalize overJ a b c d x y z = J at *
 generalize cmpI (x * 1) (a * z) = o1 at *
 generalize cmpI (x * 1) (c * z) = o2 at *
 generalize turnI a b 1 c d 1 x y z = o3 at *
 generalize cmpI (y * 1) (b * z) = o4 at *
 generalize cmpI (y * 1) (d * z) = o5 at *
 clear i1 i2 i3 i4 sx sy sz sa sb sc sd s1 o3in
 go_enter Tryz.func66, Tryz.ntmps66
 go_wp2_with fail
 generalize ((w.alloc (.cells #[.int .i64 a, .int .i64 b, .int .i64 c, .int .i64 d] 83)).alloc (.cells #[.int .u64 (ww3 x), .int .u64 (ww2 x), .int .u64 (ww1 x), .int .u64 (ww0 x), .int .u64 (ww3 y), .int .u64 (ww2 y), .int .u64 (ww1 y), .int .u64 (ww0 y), .int .u64 (ww3 z), .int .u64 (ww2 z), .int .u64 (ww1 z), .int .u64 (ww0 z)] 38)) = W at *
 refine (EN _).mono ?_
 rintro e w1 ⟨rfl, hB⟩
 replace T0 := T0.step hB
 clear hB EN
 have X1 := (Blk.new w1 [.int .u64 (ww3 a), .int .u64 (ww2 a), .int .u64 (ww1 a), .int .u64 (ww0 a), .int .u64 (ww3 b), .int .u64 (ww2 b), .int .u64 (ww1 b), .int .u64 (ww0 b), .int .u64 (ww3 1), .int .u64 (ww2 1), .int .u64 (ww1 1), .int .u64 (ww0 1)] 38 rfl).alloc (.cells #[.int .u64 (ww3 c), .int .u64 (ww2 c), .int .u64 (ww1 c), .int .u64 (ww0 c), .int .u64 (ww3 d), .int .u64 (ww2 d), .int .u64 (ww1 d), .int .u64 (ww0 d), .int .u64 (ww3 1), .int .u64 (ww2 1), .int .u64 (ww1 1), .int .u64 (ww0 1)] 38)
 have X2 := Blk.new (w1.alloc (.cells #[.int .u64 (ww3 a), .int .u64 (ww2 a), .int .u64 (ww1 a), .int .u64 (ww0 a), .int .u64 (ww3 b), .int .u64 (ww2 b), .int .u64 (ww1 b), .int .u64 (ww0 b), .int .u64 (ww3 1), .int .u64 (ww2 1), .int .u64 (ww1 1), .int .u64 (ww0 1)] 38)) [.int .u64 (ww3 c), .int .u64 (ww2 c), .int .u64 (ww1 c), .int .u64 (ww0 c), .int .u64 (ww3 d), .int .u64 (ww2 d), .int .u64 (ww1 d), .int .u64 (ww0 d), .int .u64 (ww3 1), .int .u64 (ww2 1), .int .u64 (ww1 1), .int .u64 (ww0 1)] 38 rfl
 have x2e : (w1.alloc (.cells #[.int .u64 (ww3 a), .int .u64 (ww2 a), .int .u64 (ww1 a), .int .u64 (ww0 a), .int .u64 (ww3 b), .int .u64 (ww2 b), .int .u64 (ww1 b), .int .u64 (ww0 b), .int .u64 (ww3 1), .int .u64 (ww2 1), .int .u64 (ww1 1), .int .u64 (ww0 1)] 38)).heap.size = w1.heap.size + 1 := by simp
 rw [x2e] at X2
 clear x2e
 replace T0 := (T0.alloc (.cells #[.int .u64 (ww3 a), .int .u64 (ww2 a), .int .u64 (ww1 a), .int .u64 (ww0 a), .int .u64 (ww3 b), .int .u64 (ww2 b), .int .u64 (ww1 b), .int .u64 (ww0 b), .int .u64 (ww3 1), .int .u64 (ww2 1), .int .u64 (ww1 1), .int .u64 (ww0 1)] 38)).alloc (.cells #[.int .u64 (ww3 c), .int .u64 (ww2 c), .int .u64 (ww1 c), .int .u64 (ww0 c), .int .u64 (ww3 d), .int .u64 (ww2 d), .int .u64 (ww1 d), .int .u64 (ww0 d), .int .u64 (ww3 1), .int .u64 (ww2 1), .int .u64 (ww1 1), .int .u64 (ww0 1)] 38)
 have Y0 : Blk _ (w.heap.size + 1) _ := T0.b 1 rfl; have q0 := Y0.c 0 rfl; have k0 := X1.c 0 rfl; have l0 := X2.c 0 rfl; have q1 := Y0.c 1 rfl; have k1 := X1.c 1 rfl; have l1 := X2.c 1 rfl; have q2 := Y0.c 2 rfl; have k2 := X1.c 2 rfl; have l2 := X2.c 2 rfl; have q3 := Y0.c 3 rfl; have k3 := X1.c 3 rfl; have l3 := X2.c 3 rfl; have q4 := Y0.c 4 rfl; have k4 := X1.c 4 rfl; have l4 := X2.c 4 rfl; have q5 := Y0.c 5 rfl; have k5 := X1.c 5 rfl; have l5 := X2.c 5 rfl; have q6 := Y0.c 6 rfl; have k6 := X1.c 6 rfl; have l6 := X2.c 6 rfl; have q7 := Y0.c 7 rfl; have k7 := X1.c 7 rfl; have l7 := X2.c 7 rfl; have q8 := Y0.c 8 rfl; have k8 := X1.c 8 rfl; have l8 := X2.c 8 rfl; have q9 := Y0.c 9 rfl; have k9 := X1.c 9 rfl; have l9 := X2.c 9 rfl; have q10 := Y0.c 10 rfl; have k10 := X1.c 10 rfl; have l10 := X2.c 10 rfl; have q11 := Y0.c 11 rfl; have k11 := X1.c 11 rfl; have l11 := X2.c 11 rfl; have ql := Y0.lt; clear Y0
 go_wp2_with fail
 generalize ((w1.alloc (.cells #[.int .u64 (ww3 a), .int .u64 (ww2 a), .int .u64 (ww1 a), .int .u64 (ww0 a), .int .u64 (ww3 b), .int .u64 (ww2 b), .int .u64 (ww1 b), .int .u64 (ww0 b), .int .u64 (ww3 1), .int .u64 (ww2 1), .int .u64 (ww1 1), .int .u64 (ww0 1)] 38)).alloc (.cells #[.int .u64 (ww3 c), .int .u64 (ww2 c), .int .u64 (ww1 c), .int .u64 (ww0 c), .int .u64 (ww3 d), .int .u64 (ww2 d), .int .u64 (ww1 d), .int .u64 (ww0 d), .int .u64 (ww3 1), .int .u64 (ww2 1), .int .u64 (ww1 1), .int .u64 (ww0 1)] 38)) = W1 at *
 generalize w1.heap.size = g1 at *
 refine (C1 _).mono ?_
 rintro e w2 ⟨rfl, hB⟩
 replace T0 := T0.step hB; replace X1 := X1.step hB; replace X2 := X2.step hB
 clear hB C1 q0 k0 l0 q1 k1 l1 q2 k2 l2 q3 k3 l3 q4 k4 l4 q5 k5 l5 q6 k6 l6 q7 k7 l7 q8 k8 l8 q9 k9 l9 q10 k10 l10 q11 k11 l11 ql
 by_cases h1 : o1 < 0
 · have HO : Hid (J = 2) := by show _ = _; rw [HJ.out, if_pos (show o1 < 0 by omega)]
   have HB := T0.below
   clear T0 X1 X2 
   go_wp2
   go_ret
   exact ⟨by rw [HO.out]; rfl, HB⟩
 · have K1 : Hid (¬ o1 < 0) := h1
   have Y0 : Blk _ (w.heap.size + 1) _ := T0.b 1 rfl; have q0 := Y0.c 0 rfl; have k0 := X1.c 0 rfl; have l0 := X2.c 0 rfl; have q1 := Y0.c 1 rfl; have k1 := X1.c 1 rfl; have l1 := X2.c 1 rfl; have q2 := Y0.c 2 rfl; have k2 := X1.c 2 rfl; have l2 := X2.c 2 rfl; have q3 := Y0.c 3 rfl; have k3 := X1.c 3 rfl; have l3 := X2.c 3 rfl; have q4 := Y0.c 4 rfl; have k4 := X1.c 4 rfl; have l4 := X2.c 4 rfl; have q5 := Y0.c 5 rfl; have k5 := X1.c 5 rfl; have l5 := X2.c 5 rfl; have q6 := Y0.c 6 rfl; have k6 := X1.c 6 rfl; have l6 := X2.c 6 rfl; have q7 := Y0.c 7 rfl; have k7 := X1.c 7 rfl; have l7 := X2.c 7 rfl; have q8 := Y0.c 8 rfl; have k8 := X1.c 8 rfl; have l8 := X2.c 8 rfl; have q9 := Y0.c 9 rfl; have k9 := X1.c 9 rfl; have l9 := X2.c 9 rfl; have q10 := Y0.c 10 rfl; have k10 := X1.c 10 rfl; have l10 := X2.c 10 rfl; have q11 := Y0.c 11 rfl; have k11 := X1.c 11 rfl; have l11 := X2.c 11 rfl; have ql := Y0.lt; clear Y0
   go_wp2_with fail
   refine (C2 _).mono ?_
   rintro e w3 ⟨rfl, hB⟩
   replace T0 := T0.step hB; replace X1 := X1.step hB; replace X2 := X2.step hB
   clear hB q0 k0 l0 q1 k1 l1 q2 k2 l2 q3 k3 l3 q4 k4 l4 q5 k5 l5 q6 k6 l6 q7 k7 l7 q8 k8 l8 q9 k9 l9 q10 k10 l10 q11 k11 l11 ql
   by_cases h2 : o2 > 0
   · have HO : Hid (J = 2) := by show _ = _; rw [HJ.out, if_neg (show ¬ o1 < 0 by have := K1.out; omega), if_pos (show o2 > 0 by omega)]
     have HB := T0.below
     clear T0 X1 X2 
     go_wp2
     go_ret
     exact ⟨by rw [HO.out]; rfl, HB⟩
   · have K2 : Hid (¬ o2 > 0) := h2
     have Y1 : Blk _ w.heap.size _ := T0.b 0 rfl; obtain ⟨g0, g1, g2, g3⟩ := Y1.cs4; clear Y1
     by_cases h3 : a < c
     · have HO : Hid (J = -o3) := by show _ = _; rw [HJ.out, if_neg (show ¬ o1 < 0 by have := K1.out; omega), if_neg (show ¬ o2 > 0 by have := K2.out; omega), if_pos (show a < c by omega)]
       have Y0 : Blk _ (w.heap.size + 1) _ := T0.b 1 rfl; have q0 := Y0.c 0 rfl; have k0 := X1.c 0 rfl; have l0 := X2.c 0 rfl; have q1 := Y0.c 1 rfl; have k1 := X1.c 1 rfl; have l1 := X2.c 1 rfl; have q2 := Y0.c 2 rfl; have k2 := X1.c 2 rfl; have l2 := X2.c 2 rfl; have q3 := Y0.c 3 rfl; have k3 := X1.c 3 rfl; have l3 := X2.c 3 rfl; have q4 := Y0.c 4 rfl; have k4 := X1.c 4 rfl; have l4 := X2.c 4 rfl; have q5 := Y0.c 5 rfl; have k5 := X1.c 5 rfl; have l5 := X2.c 5 rfl; have q6 := Y0.c 6 rfl; have k6 := X1.c 6 rfl; have l6 := X2.c 6 rfl; have q7 := Y0.c 7 rfl; have k7 := X1.c 7 rfl; have l7 := X2.c 7 rfl; have q8 := Y0.c 8 rfl; have k8 := X1.c 8 rfl; have l8 := X2.c 8 rfl; have q9 := Y0.c 9 rfl; have k9 := X1.c 9 rfl; have l9 := X2.c 9 rfl; have q10 := Y0.c 10 rfl; have k10 := X1.c 10 rfl; have l10 := X2.c 10 rfl; have q11 := Y0.c 11 rfl; have k11 := X1.c 11 rfl; have l11 := X2.c 11 rfl; have ql := Y0.lt; clear Y0
       go_wp2_with fail
       refine (C3 _).mono ?_
       rintro e w4 ⟨rfl, hB⟩
       replace T0 := T0.step hB; replace X1 := X1.step hB; replace X2 := X2.step hB
       clear hB q0 k0 l0 q1 k1 l1 q2 k2 l2 q3 k3 l3 q4 k4 l4 q5 k5 l5 q6 k6 l6 q7 k7 l7 q8 k8 l8 q9 k9 l9 q10 k10 l10 q11 k11 l11 ql
       have n1 : -1 ≤ o3 := by omega
       have n2 : o3 ≤ 1 := by omega
       have HB := T0.below
       clear T0 X1 X2 g0 g1 g2 g3
       go_wp2
       go_ret
       exact ⟨by rw [HO.out]; rfl, HB⟩
     · have K3 : Hid (¬ a < c) := h3
       have Y0 : Blk _ (w.heap.size + 1) _ := T0.b 1 rfl; have q0 := Y0.c 0 rfl; have k0 := X1.c 0 rfl; have l0 := X2.c 0 rfl; have q1 := Y0.c 1 rfl; have k1 := X1.c 1 rfl; have l1 := X2.c 1 rfl; have q2 := Y0.c 2 rfl; have k2 := X1.c 2 rfl; have l2 := X2.c 2 rfl; have q3 := Y0.c 3 rfl; have k3 := X1.c 3 rfl; have l3 := X2.c 3 rfl; have q4 := Y0.c 4 rfl; have k4 := X1.c 4 rfl; have l4 := X2.c 4 rfl; have q5 := Y0.c 5 rfl; have k5 := X1.c 5 rfl; have l5 := X2.c 5 rfl; have q6 := Y0.c 6 rfl; have k6 := X1.c 6 rfl; have l6 := X2.c 6 rfl; have q7 := Y0.c 7 rfl; have k7 := X1.c 7 rfl; have l7 := X2.c 7 rfl; have q8 := Y0.c 8 rfl; have k8 := X1.c 8 rfl; have l8 := X2.c 8 rfl; have q9 := Y0.c 9 rfl; have k9 := X1.c 9 rfl; have l9 := X2.c 9 rfl; have q10 := Y0.c 10 rfl; have k10 := X1.c 10 rfl; have l10 := X2.c 10 rfl; have q11 := Y0.c 11 rfl; have k11 := X1.c 11 rfl; have l11 := X2.c 11 rfl; have ql := Y0.lt; clear Y0
       go_wp2_with fail
       refine (C4 _).mono ?_
       rintro e w4 ⟨rfl, hB⟩
       replace T0 := T0.step hB; replace X1 := X1.step hB; replace X2 := X2.step hB
       clear hB q0 k0 l0 q1 k1 l1 q2 k2 l2 q3 k3 l3 q4 k4 l4 q5 k5 l5 q6 k6 l6 q7 k7 l7 q8 k8 l8 q9 k9 l9 q10 k10 l10 q11 k11 l11 ql
       by_cases h4 : o4 < 0
       · have HO : Hid (J = 1) := by show _ = _; rw [HJ.out, if_neg (show ¬ o1 < 0 by have := K1.out; omega), if_neg (show ¬ o2 > 0 by have := K2.out; omega), if_neg (show ¬ a < c by have := K3.out; omega), if_pos (show o4 < 0 by omega)]
         have HB := T0.below
         clear T0 X1 X2 
         go_wp2
         go_ret
         exact ⟨by rw [HO.out]; rfl, HB⟩
       · have K4 : Hid (¬ o4 < 0) := h4
         have Y0 : Blk _ (w.heap.size + 1) _ := T0.b 1 rfl; have q0 := Y0.c 0 rfl; have k0 := X1.c 0 rfl; have l0 := X2.c 0 rfl; have q1 := Y0.c 1 rfl; have k1 := X1.c 1 rfl; have l1 := X2.c 1 rfl; have q2 := Y0.c 2 rfl; have k2 := X1.c 2 rfl; have l2 := X2.c 2 rfl; have q3 := Y0.c 3 rfl; have k3 := X1.c 3 rfl; have l3 := X2.c 3 rfl; have q4 := Y0.c 4 rfl; have k4 := X1.c 4 rfl; have l4 := X2.c 4 rfl; have q5 := Y0.c 5 rfl; have k5 := X1.c 5 rfl; have l5 := X2.c 5 rfl; have q6 := Y0.c 6 rfl; have k6 := X1.c 6 rfl; have l6 := X2.c 6 rfl; have q7 := Y0.c 7 rfl; have k7 := X1.c 7 rfl; have l7 := X2.c 7 rfl; have q8 := Y0.c 8 rfl; have k8 := X1.c 8 rfl; have l8 := X2.c 8 rfl; have q9 := Y0.c 9 rfl; have k9 := X1.c 9 rfl; have l9 := X2.c 9 rfl; have q10 := Y0.c 10 rfl; have k10 := X1.c 10 rfl; have l10 := X2.c 10 rfl; have q11 := Y0.c 11 rfl; have k11 := X1.c 11 rfl; have l11 := X2.c 11 rfl; have ql := Y0.lt; clear Y0
         go_wp2_with fail
         refine (C5 _).mono ?_
         rintro e w5 ⟨rfl, hB⟩
         replace T0 := T0.step hB; replace X1 := X1.step hB; replace X2 := X2.step hB
         clear hB q0 k0 l0 q1 k1 l1 q2 k2 l2 q3 k3 l3 q4 k4 l4 q5 k5 l5 q6 k6 l6 q7 k7 l7 q8 k8 l8 q9 k9 l9 q10 k10 l10 q11 k11 l11 ql
         by_cases h5 : o5 > 0
         · have HO : Hid (J = -1) := by show _ = _; rw [HJ.out, if_neg (show ¬ o1 < 0 by have := K1.out; omega), if_neg (show ¬ o2 > 0 by have := K2.out; omega), if_neg (show ¬ a < c by have := K3.out; omega), if_neg (show ¬ o4 < 0 by have := K4.out; omega), if_pos (show o5 > 0 by omega)]
           have HB := T0.below
           clear T0 X1 X2 
           go_wp2
           go_ret
           exact ⟨by rw [HO.out]; rfl, HB⟩
         · have K5 : Hid (¬ o5 > 0) := h5
           have HO : Hid (J = 0) := by show _ = _; rw [HJ.out, if_neg (show ¬ o1 < 0 by have := K1.out; omega), if_neg (show ¬ o2 > 0 by have := K2.out; omega), if_neg (show ¬ a < c by have := K3.out; omega), if_neg (show ¬ o4 < 0 by have := K4.out; omega), if_neg (show ¬ o5 > 0 by have := K5.out; omega)]
           have HB := T0.below
           clear T0 X1 X2 
           go_wp2
           go_ret
           exact ⟨by rw [HO.out]; rfl, HB⟩
theorem cmpZ_le {x y : Int} : cmpI x y ≤ 0 ↔ x ≤ y := by unfold cmpI; repeat' split <;> omega
theorem cmpZ_lt {x y : Int} : cmpI x y < 0 ↔ x < y := by unfold cmpI; repeat' split <;> omega
theorem cmpZ_gt {x y : Int} : cmpI x y > 0 ↔ y < x := by unfold cmpI; repeat' split <;> omega
theorem cmpZ_eq {x y : Int} : cmpI x y = 0 ↔ x = y := by unfold cmpI; repeat' split <;> omega
theorem ordZ_le (x y z u v t : Int) : ordI x y z u v t ≤ 0 ↔ x * t < u * z ∨ (x * t = u * z ∧ y * t ≤ v * z) := by
 unfold ordI
 by_cases h : cmpI (x * t) (u * z) = 0
 · rw [if_pos h, cmpZ_le]
   have := cmpZ_eq.1 h
   omega
 · rw [if_neg h, cmpZ_le]
   have : x * t ≠ u * z := fun e => h (cmpZ_eq.2 e)
   omega
theorem turn_lin (a b c d x y z : Int) : a * (d * z - 1 * y) - b * (c * z - 1 * x) + 1 * (c * y - d * x) = (c - a) * (y - b * z) - (d - b) * (x - a * z) := by grind
theorem turn_zero {a b c d x y z : Int} : turnI a b 1 c d 1 x y z = 0 ↔ (c - a) * (y - b * z) = (d - b) * (x - a * z) := by
 unfold turnI
 rw [cmpZ_eq, turn_lin]
 omega
theorem btw_seg {a b c d x y z : Int} (h : a < c ∨ (a = c ∧ b < d)) : btwS a b 1 c d 1 x y z = (decide (ordI a b 1 x y z ≤ 0) && decide (ordI x y z c d 1 ≤ 0) && decide (turnI a b 1 c d 1 x y z = 0)) := by
 have h0 : ¬ 0 < ordI a b 1 c d 1 := by
   have := (ordZ_le a b 1 c d 1).2 (by omega)
   omega
 unfold btwS
 rw [if_neg h0]
theorem prod_zero {p q : Int} (hp : p ≠ 0) (h : p * q = 0) : q = 0 := by
 rcases Int.mul_eq_zero.1 h with h' | h'
 · exact absurd h' hp
 · exact h'
theorem over_zero {a b c d x y z : Int} (h : a < c ∨ (a = c ∧ b < d)) : overJ a b c d x y z = 0 ↔ (ordI a b 1 x y z ≤ 0 ∧ ordI x y z c d 1 ≤ 0 ∧ turnI a b 1 c d 1 x y z = 0) := by
 rw [ordZ_le, ordZ_le]
 simp only [Int.mul_one]
 unfold overJ
 simp only [cmpZ_lt, cmpZ_gt, Int.mul_one]
 by_cases h1 : x < a * z
 · rw [if_pos h1]
   omega
 by_cases h2 : c * z < x
 · rw [if_neg h1, if_pos h2]
   omega
 rw [if_neg h1, if_neg h2]
 rcases h with h | ⟨h, h'⟩
 · rw [if_pos h]
   constructor
   · intro ht
     have ht' : turnI a b 1 c d 1 x y z = 0 := by omega
     have e := turn_zero.1 ht'
     refine ⟨?_, ?_, ht'⟩
     · by_cases hx : x = a * z
       · refine Or.inr ⟨hx.symm, ?_⟩
         rw [hx] at e
         have e2 : (c - a) * (y - b * z) = 0 := by rw [e]; simp
         have := prod_zero (by omega) e2
         omega
       · exact Or.inl (by omega)
     · by_cases hx : x = c * z
       · refine Or.inr ⟨hx, ?_⟩
         rw [hx] at e
         have e2 : (c - a) * (y - d * z) = 0 := by
           have : (c - a) * (y - d * z) = (c - a) * (y - b * z) - (d - b) * (c * z - a * z) := by grind
           omega
         have := prod_zero (by omega) e2
         omega
       · exact Or.inl (by omega)
   · rintro ⟨-, -, ht⟩
     omega
 · subst h
   rw [if_neg (by omega)]
   have hx : x = a * z := by omega
   have ht : turnI a b 1 a d 1 x y z = 0 := by
     rw [turn_zero, hx]
     simp
   by_cases h3 : y < b * z
   · rw [if_pos h3]
     omega
   by_cases h4 : d * z < y
   · rw [if_neg h3, if_pos h4]
     omega
   rw [if_neg h3, if_neg h4]
   constructor
   · intro _
     exact ⟨Or.inr ⟨by omega, by omega⟩, Or.inr ⟨by omega, by omega⟩, ht⟩
   · intro _
     rfl
def upB (x y z u v t a b c : Int) : Bool := if cmpI (u * z) (x * t) < 0 then decide (cmpI (u * c) (a * t) ≤ 0) && decide (cmpI (a * z) (x * c) < 0) && decide (turnI u v t x y z a b c < 0) else decide (cmpI (x * c) (a * z) ≤ 0) && decide (cmpI (a * t) (u * c) < 0) && decide (turnI x y z u v t a b c < 0)
def ctB (x y z u v t a b c : Int) : Bool := if cmpI (v * z) (y * t) < 0 then decide (cmpI (v * c) (b * t) ≤ 0) && decide (cmpI (b * z) (y * c) < 0) && decide (0 < turnI u v t x y z a b c) else decide (cmpI (y * c) (b * z) ≤ 0) && decide (cmpI (b * t) (v * c) < 0) && decide (0 < turnI x y z u v t a b c)
def qdB (x y z a b c : Int) : Bool := decide (0 < x * c - a * z) && decide (0 < y * c - b * z)
theorem cmpI_neg_iff (a b : Int) : cmpI a b < 0 ↔ a < b := by
 rcases cmpI_val a b with ⟨h, e⟩ | ⟨h, e⟩ | ⟨h, e⟩ <;> rw [e] <;> omega
theorem cmpI_le_iff (a b : Int) : cmpI a b ≤ 0 ↔ a ≤ b := by
 rcases cmpI_val a b with ⟨h, e⟩ | ⟨h, e⟩ | ⟨h, e⟩ <;> rw [e] <;> omega
theorem cmpI_pos_iff (a b : Int) : 0 < cmpI a b ↔ b < a := by
 rcases cmpI_val a b with ⟨h, e⟩ | ⟨h, e⟩ | ⟨h, e⟩ <;> rw [e] <;> omega
theorem cmpI_nil_iff (a b : Int) : cmpI a b = 0 ↔ a = b := by
 rcases cmpI_val a b with ⟨h, e⟩ | ⟨h, e⟩ | ⟨h, e⟩ <;> rw [e] <;> omega
def detI (x y z u v t a b c : Int) : Int := x * (v * c - t * b) - y * (u * c - t * a) + z * (u * b - v * a)
theorem det_swap (x y z u v t a b c : Int) : detI u v t x y z a b c = -detI x y z u v t a b c := by unfold detI; grind
theorem det_parts (x y z u v t a b c : Int) : c * detI x y z u v t a b c = (x * c - a * z) * (v * c - b * t) - (u * c - a * t) * (y * c - b * z) := by unfold detI; grind
theorem up_iff (x y z u v t a b c : Int) (hz : 0 < z) (ht : 0 < t) (hc : 0 < c) : upB x y z u v t a b c = true ↔ (x * c - a * z ≤ 0 ∧ 0 < u * c - a * t ∧ detI x y z u v t a b c < 0) ∨ (u * c - a * t ≤ 0 ∧ 0 < x * c - a * z ∧ 0 < detI x y z u v t a b c) := by
 have e1 : turnI u v t x y z a b c < 0 ↔ 0 < detI x y z u v t a b c := by
   have := det_swap x y z u v t a b c
   unfold turnI
   rw [cmpI_neg_iff]
   unfold detI at *
   omega
 have e2 : turnI x y z u v t a b c < 0 ↔ detI x y z u v t a b c < 0 := by
   unfold turnI
   rw [cmpI_neg_iff]
   rfl
 have f1 : x * c ≤ a * z → a * t < u * c → x * t < u * z := fun h k => (frac_trans hz ht hc h (by omega)).2 (.inr k)
 have f2 : u * c ≤ a * t → a * z < x * c → u * z < x * t := fun h k => (frac_trans ht hz hc h (by omega)).2 (.inr k)
 unfold upB
 split
 · rename_i h
   rw [cmpI_neg_iff] at h
   simp only [Bool.and_eq_true, decide_eq_true_iff, cmpI_le_iff, cmpI_neg_iff, e1]
   omega
 · rename_i h
   rw [cmpI_neg_iff] at h
   simp only [Bool.and_eq_true, decide_eq_true_iff, cmpI_le_iff, cmpI_neg_iff, e2]
   omega
theorem ct_iff (x y z u v t a b c : Int) (hz : 0 < z) (ht : 0 < t) (hc : 0 < c) : ctB x y z u v t a b c = true ↔ (y * c - b * z ≤ 0 ∧ 0 < v * c - b * t ∧ 0 < detI x y z u v t a b c) ∨ (v * c - b * t ≤ 0 ∧ 0 < y * c - b * z ∧ detI x y z u v t a b c < 0) := by
 have e1 : 0 < turnI u v t x y z a b c ↔ detI x y z u v t a b c < 0 := by
   have := det_swap x y z u v t a b c
   unfold turnI
   rw [cmpI_pos_iff]
   unfold detI at *
   omega
 have e2 : 0 < turnI x y z u v t a b c ↔ 0 < detI x y z u v t a b c := by
   unfold turnI
   rw [cmpI_pos_iff]
   rfl
 have f1 : y * c ≤ b * z → b * t < v * c → y * t < v * z := fun h k => (frac_trans hz ht hc h (by omega)).2 (.inr k)
 have f2 : v * c ≤ b * t → b * z < y * c → v * z < y * t := fun h k => (frac_trans ht hz hc h (by omega)).2 (.inr k)
 unfold ctB
 split
 · rename_i h
   rw [cmpI_neg_iff] at h
   simp only [Bool.and_eq_true, decide_eq_true_iff, cmpI_le_iff, cmpI_neg_iff, e1]
   omega
 · rename_i h
   rw [cmpI_neg_iff] at h
   simp only [Bool.and_eq_true, decide_eq_true_iff, cmpI_le_iff, cmpI_neg_iff, e2]
   omega
theorem on_line (x y z u v t a b c : Int) (hz : 0 < z) (ht : 0 < t) (hc : 0 < c) (hd : detI x y z u v t a b c = 0) (h : (x * c - a * z ≤ 0 ∧ 0 < u * c - a * t) ∨ (u * c - a * t ≤ 0 ∧ 0 < x * c - a * z)) : btwS x y z u v t a b c = true := by
 rw [← btw_same x y z u v t a b c hz ht hc, Bool.and_eq_true, decide_eq_true_iff, decide_eq_true_iff]
 have hp := det_parts x y z u v t a b c
 rw [hd, Int.mul_zero] at hp
 refine ⟨by unfold turnI; rw [cmpI_nil_iff]; exact hd, ?_⟩
 unfold ordI
 rcases h with ⟨h1, h2⟩ | ⟨h1, h2⟩
 · rcases Int.lt_or_eq_of_le h1 with h3 | h3
   · rw [cmpI_lt (show x * c < a * z by omega), cmpI_lt (show a * t < u * c by omega)]
     simp
   · rw [h3, Int.zero_mul] at hp
     have h4 : y * c - b * z = 0 := by
       rcases Int.mul_eq_zero.1 (show (u * c - a * t) * (y * c - b * z) = 0 by omega) with h | h <;> omega
     rw [cmpI_eq (show x * c = a * z by omega), if_pos rfl, cmpI_eq (show y * c = b * z by omega), Int.zero_mul]
     exact Int.le_refl _
 · rcases Int.lt_or_eq_of_le h1 with h3 | h3
   · rw [cmpI_gt (show a * z < x * c by omega), cmpI_gt (show u * c < a * t by omega)]
     simp
   · rw [h3, Int.zero_mul] at hp
     have h4 : v * c - b * t = 0 := by
       rcases Int.mul_eq_zero.1 (show (x * c - a * z) * (v * c - b * t) = 0 by omega) with h | h <;> omega
     rw [cmpI_eq (show a * t = u * c by omega), if_pos rfl, cmpI_eq (show b * t = v * c by omega), Int.mul_zero]
     exact Int.le_refl _
theorem sgn_mul (a b : Int) : (0 < a → 0 < b → 0 < a * b) ∧ (a ≤ 0 → 0 < b → a * b ≤ 0) ∧ (0 < a → b ≤ 0 → a * b ≤ 0) ∧ (a ≤ 0 → b ≤ 0 → 0 ≤ a * b) := by
 refine ⟨fun h k => Int.mul_pos h k, fun h k => Int.mul_nonpos_of_nonpos_of_nonneg h (by omega), fun h k => Int.mul_nonpos_of_nonneg_of_nonpos (by omega) k, fun h k => Int.mul_nonneg_of_nonpos_of_nonpos h k⟩
theorem sgn_of {c d r : Int} (hc : 0 < c) (h : c * d = r) : (0 < d ↔ 0 < r) ∧ (d < 0 ↔ r < 0) ∧ (d = 0 ↔ r = 0) := by
 rcases Int.lt_trichotomy d 0 with k | k | k
 · have := Int.mul_neg_of_pos_of_neg hc k
   omega
 · subst k
   rw [Int.mul_zero] at h
   omega
 · have := Int.mul_pos hc k
   omega
theorem edge_same (x y z u v t a b c : Int) (hz : 0 < z) (ht : 0 < t) (hc : 0 < c) (hb : btwS x y z u v t a b c = false) : (upB x y z u v t a b c ^^ ctB x y z u v t a b c) = (qdB x y z a b c ^^ qdB u v t a b c) := by
 have U := up_iff x y z u v t a b c hz ht hc
 have C := ct_iff x y z u v t a b c hz ht hc
 have O := on_line x y z u v t a b c hz ht hc
 rw [hb] at O
 have S := sgn_of hc (det_parts x y z u v t a b c)
 have m1 := sgn_mul (x * c - a * z) (v * c - b * t)
 have m2 := sgn_mul (u * c - a * t) (y * c - b * z)
 unfold qdB
 generalize detI x y z u v t a b c = D at *
 generalize (x * c - a * z) * (v * c - b * t) = P at *
 generalize (u * c - a * t) * (y * c - b * z) = Q at *
 generalize x * c - a * z = U1 at *
 generalize y * c - b * z = U2 at *
 generalize u * c - a * t = V1 at *
 generalize v * c - b * t = V2 at *
 generalize upB x y z u v t a b c = up at *
 generalize ctB x y z u v t a b c = ct at *
 by_cases h1 : 0 < U1 <;> by_cases h2 : 0 < U2 <;> by_cases h3 : 0 < V1 <;> by_cases h4 : 0 < V2 <;> simp only [h1, h2, h3, h4, decide_true, decide_false] <;> cases up <;> cases ct <;> first | rfl | (exfalso; simp only [Bool.false_eq_true, false_iff, true_iff, imp_false] at U C O; omega)
theorem mk_cells {s : Bool} {o : Option Addr} {n c : Nat} {W : World} {g : Nat} (G : Blk W g [.bool s, .slice o n c]) : (fun w' => w'.cell? ⟨g, 0, none⟩ = some (.bool s) ∧ w'.cell? ⟨g, 1, none⟩ = some (.slice o n c)) W := ⟨G.c 0 rfl, G.c 1 rfl⟩
abbrev In2 (x : Int) : Prop := -2000000 ≤ x ∧ x ≤ 2000000
abbrev In1 (x : Int) : Prop := -1000000 ≤ x ∧ x ≤ 1000000
theorem mul_in {p q M N : Int} (h1 : -M ≤ p) (h2 : p ≤ M) (h3 : -N ≤ q) (h4 : q ≤ N) : -(M * N) ≤ p * q ∧ p * q ≤ M * N := by
 have hM : 0 ≤ M := by omega
 have hN : 0 ≤ N := by omega
 have a1 : 0 ≤ (M - p) * (N - q) := Int.mul_nonneg (by omega) (by omega)
 have a2 : 0 ≤ (M + p) * (N + q) := Int.mul_nonneg (by omega) (by omega)
 have a3 : 0 ≤ (M - p) * (N + q) := Int.mul_nonneg (by omega) (by omega)
 have a4 : 0 ≤ (M + p) * (N - q) := Int.mul_nonneg (by omega) (by omega)
 constructor <;> grind
theorem prod2 {p q : Int} (hp : In2 p) (hq : In2 q) : -4000000000000 ≤ p * q ∧ p * q ≤ 4000000000000 := mul_in (M := 2000000) (N := 2000000) hp.1 hp.2 hq.1 hq.2
theorem minusS_det (x y u v : Int) (hx : In1 x) (hy : In1 y) (hu : In1 u) (hv : In1 v) (w : World) : Calls Tryz.prog 150 #[Sp x y, Sp u v] w (VP (Sp (x - u) (y - v)) w) := by
 obtain ⟨x1, x2⟩ := hx; obtain ⟨y1, y2⟩ := hy; obtain ⟨u1, u2⟩ := hu; obtain ⟨v1, v2⟩ := hv
 go_enter Tryz.func150, Tryz.ntmps150
 go_wp2
 refine bodyPost_ret (v := Sp (x - u) (y - v)) (by simp [results, Tryz.results150, go_sem]) rfl ?_
 exact ⟨rfl, (((Below.refl _ _).alloc (Nat.le_refl _) _).alloc (by simp) _).alloc (by simp; omega) _⟩
theorem cross_det (x y u v : Int) (hx : In2 x) (hy : In2 y) (hu : In2 u) (hv : In2 v) (w : World) : Calls Tryz.prog 75 #[Sp x y, Sp u v] w (VP (.int .i64 (x * v - y * u)) w) := by
 obtain ⟨p1, p2⟩ := prod2 hx hv; obtain ⟨q1, q2⟩ := prod2 hy hu
 clear hx hy hu hv
 go_enter Tryz.func75, Tryz.ntmps75
 go_wp2
 go_ret
 exact ⟨rfl, ((Below.refl _ _).alloc (Nat.le_refl _) _).alloc (by simp) _⟩
def CutG (w wx : World) (vss : List (List Value)) (us vs : List Value) (p q : Value) : Prop :=
 ∃ g g', p = .pointer (some ⟨g, 0, none⟩) ∧ q = .pointer (some ⟨g', 0, none⟩) ∧ g ≠ g' ∧ w.heap.size + vss.length ≤ g ∧ w.heap.size + vss.length ≤ g' ∧ ArgsB w wx vss ∧ Blk wx g us ∧ Blk wx g' vs
theorem cutG_nn {w X : World} {vss : List (List Value)} {us vs : List Value} {T T' : TypeId} (h : ArgsB w X vss) (hl : w.heap.size + vss.length ≤ X.heap.size) : CutG w ((X.alloc (.cells us.toArray T)).alloc (.cells vs.toArray T')) vss us vs (.pointer (some ⟨X.heap.size, 0, none⟩)) (.pointer (some ⟨X.heap.size + 1, 0, none⟩)) :=
 ⟨_, _, rfl, rfl, by omega, hl, by omega, (h.alloc _).alloc _, (Blk.new X us T rfl).alloc _, Blk.new _ vs T' (by simp)⟩
theorem cutG_nn' {w X : World} {vss : List (List Value)} {us vs : List Value} {T T' : TypeId} (h : ArgsB w X vss) (hl : w.heap.size + vss.length ≤ X.heap.size) : CutG w ((X.alloc (.cells vs.toArray T)).alloc (.cells us.toArray T')) vss us vs (.pointer (some ⟨X.heap.size + 1, 0, none⟩)) (.pointer (some ⟨X.heap.size, 0, none⟩)) :=
 ⟨_, _, rfl, rfl, by omega, by omega, hl, (h.alloc _).alloc _, Blk.new _ us T' (by simp), (Blk.new X vs T rfl).alloc _⟩
def turnZ (a b c d x y : Int) : Int := (c - a) * (y - b) - (d - b) * (x - a)
def sgZ (z : Int) : Int := if z < 0 then -1 else if 0 < z then 1 else 0
theorem ret_i {k : IntKind} {a b : Int} (h : b = a) : Ending.returned (.int k a) = .returned (.int k b) := by rw [h]
set_option maxRecDepth 100000 in
theorem l4TurnZ_det (a b c d x y : Int) (ha : In1 a) (hb : In1 b) (hc : In1 c) (hd : In1 d) (hx : In1 x) (hy : In1 y) (w : World) :
   Calls Tryz.prog 103 #[Sp a b, Sp c d, Sp x y] w (VP (.int .i64 (sgZ (turnZ a b c d x y))) w) := by
 have HR : turnZ a b c d x y = (c - a) * (y - b) - (d - b) * (x - a) := rfl
 obtain ⟨a1, a2⟩ := ha; obtain ⟨b1, b2⟩ := hb; obtain ⟨c1, c2⟩ := hc; obtain ⟨d1, d2⟩ := hd; obtain ⟨x1, x2⟩ := hx; obtain ⟨y1, y2⟩ := hy
 obtain ⟨p1, p2⟩ := mul_in (p := c - a) (q := y - b) (M := 2000000) (N := 2000000) (by omega) (by omega) (by omega) (by omega)
 obtain ⟨q1, q2⟩ := mul_in (p := d - b) (q := x - a) (M := 2000000) (N := 2000000) (by omega) (by omega) (by omega) (by omega)
 obtain ⟨p, hp⟩ : ∃ p, (c - a) * (y - b) = p := ⟨_, rfl⟩
 obtain ⟨q, hq⟩ : ∃ q, (d - b) * (x - a) = q := ⟨_, rfl⟩
 rw [hp] at p1 p2 HR
 rw [hq] at q1 q2 HR
 rw [HR]
 clear HR
 go_enter Tryz.func103, Tryz.ntmps103
 go_wp2
 all_goals go_ret
 all_goals exact ⟨ret_i (by unfold sgZ; split <;> (try split) <;> omega), (((Below.refl _ _).alloc (Nat.le_refl _) _).alloc (by simp) _).alloc (by simp; omega) _⟩
theorem turnZ_cells {a b c d x y : Int} {w W : World} (h : ArgsB w W [[.int .i64 a, .int .i64 b, .int .i64 c, .int .i64 d], [.int .i64 x, .int .i64 y]]) : (fun w' => w'.cell? ⟨w.heap.size, 0, none⟩ = some (.int .i64 a) ∧ w'.cell? ⟨w.heap.size, 1, none⟩ = some (.int .i64 b) ∧ w'.cell? ⟨w.heap.size, 2, none⟩ = some (.int .i64 c) ∧ w'.cell? ⟨w.heap.size, 3, none⟩ = some (.int .i64 d) ∧ w'.cell? ⟨w.heap.size + 1, 0, none⟩ = some (.int .i64 x) ∧ w'.cell? ⟨w.heap.size + 1, 1, none⟩ = some (.int .i64 y)) W :=
 ⟨(h.b 0 rfl).c 0 rfl, (h.b 0 rfl).c 1 rfl, (h.b 0 rfl).c 2 rfl, (h.b 0 rfl).c 3 rfl, (h.b 1 rfl).c 0 rfl, (h.b 1 rfl).c 1 rfl⟩
set_option maxRecDepth 100000 in
set_option maxHeartbeats 1000000 in
theorem turnToZ_det (a b c d x y : Int) (ha : In1 a) (hb : In1 b) (hc : In1 c) (hd : In1 d) (hx : In1 x) (hy : In1 y) (w : World) :
   Calls Tryz.prog 136 #[Sg a b c d, Sp x y] w (VP (.int .i64 (turnZ a b c d x y)) w) := by
 have M1 := minusS_det c d a b hc hd ha hb
 have M2 := minusS_det x y a b hx hy ha hb
 have CR := cross_det (c - a) (d - b) (x - a) (y - b) ⟨by omega, by omega⟩ ⟨by omega, by omega⟩ ⟨by omega, by omega⟩ ⟨by omega, by omega⟩
 have T0 : ArgsB w ((w.alloc (.cells #[.int .i64 a, .int .i64 b, .int .i64 c, .int .i64 d] 83)).alloc (.cells #[.int .i64 x, .int .i64 y] 81)) [[.int .i64 a, .int .i64 b, .int .i64 c, .int .i64 d], [.int .i64 x, .int .i64 y]] := ar2 _ _ _ _ w
 have tok1 : True := trivial
 clear ha hb hc hd hx hy
 go_enter Tryz.func136, Tryz.ntmps136
 go_upto_region 1 with fail
 generalize ((w.alloc (.cells #[.int .i64 a, .int .i64 b, .int .i64 c, .int .i64 d] 83)).alloc (.cells #[.int .i64 x, .int .i64 y] 81)) = W at *
 go_region_held3 (fun w' => w'.cell? ⟨w.heap.size, 0, none⟩ = some (.int .i64 a) ∧ w'.cell? ⟨w.heap.size, 1, none⟩ = some (.int .i64 b) ∧ w'.cell? ⟨w.heap.size, 2, none⟩ = some (.int .i64 c) ∧ w'.cell? ⟨w.heap.size, 3, none⟩ = some (.int .i64 d) ∧ w'.cell? ⟨w.heap.size + 1, 0, none⟩ = some (.int .i64 x) ∧ w'.cell? ⟨w.heap.size + 1, 1, none⟩ = some (.int .i64 y)) ((refine turnZ_cells ?_ <;> repeat (first | (with_reducible exact T0) | (with_reducible refine ArgsB.drew ?_))))
   (first
     | (go_at_call 150; have _t := tok1; refine (M1 _).mono ?_; rintro e w1 ⟨rfl, hB⟩; (first | (have T1 := T0.step hB) | (have T1 := T0.drew.step hB)); clear T0; have T0 := T1; clear T1; clear hB; clear tok1 _t)
     | (go_at_call 150; refine (M2 _).mono ?_; rintro e w2 ⟨rfl, hB⟩; (first | (have T1 := T0.step hB) | (have T1 := T0.drew.step hB)); clear T0; have T0 := T1; clear T1; clear hB)
     | (go_at_call 75; refine (CR _).mono ?_; rintro e w3 ⟨rfl, hB⟩; (first | (have T1 := T0.step hB) | (have T1 := T0.drew.step hB)); clear T0; have T0 := T1; clear T1; clear hB))
 all_goals go_wp2
 all_goals go_ret
 all_goals first | exact ⟨rfl, T0.below⟩ | exact ⟨rfl, T0.drew.below⟩
set_option maxRecDepth 100000 in
set_option maxHeartbeats 1000000 in
theorem lineOf_det (a b c d : Int) (ha : In1 a) (hb : In1 b) (hc : In1 c) (hd : In1 d) (w : World) : Calls Tryz.prog 107 #[Sg a b c d] w (VP (.agg #[.int .i64 (b - d), .int .i64 (c - a), .int .i64 (a * d - b * c)]) w) := by
 obtain ⟨p1, p2⟩ := mul_in (p := a) (q := d) (M := 1000000) (N := 1000000) ha.1 ha.2 hd.1 hd.2
 obtain ⟨q1, q2⟩ := mul_in (p := b) (q := c) (M := 1000000) (N := 1000000) hb.1 hb.2 hc.1 hc.2
 obtain ⟨a1, a2⟩ := ha; obtain ⟨b1, b2⟩ := hb; obtain ⟨c1, c2⟩ := hc; obtain ⟨d1, d2⟩ := hd
 go_enter Tryz.func107, Tryz.ntmps107
 go_wp2
 refine bodyPost_ret (v := .agg #[.int .i64 (b - d), .int .i64 (c - a), .int .i64 (a * d - b * c)]) (by simp [results, Tryz.results107, go_sem]) rfl ?_
 exact ⟨rfl, ((Below.refl _ _).alloc (Nat.le_refl _) _).alloc (by simp) _⟩
theorem cross_cells {l1 l2 l3 m1 m2 m3 : Int} {w W : World} (h : ArgsB w W [[.int .i64 l1, .int .i64 l2, .int .i64 l3], [.int .i64 m1, .int .i64 m2, .int .i64 m3]]) : (fun w' => w'.cell? ⟨w.heap.size, 0, none⟩ = some (.int .i64 l1) ∧ w'.cell? ⟨w.heap.size, 1, none⟩ = some (.int .i64 l2) ∧ w'.cell? ⟨w.heap.size, 2, none⟩ = some (.int .i64 l3) ∧ w'.cell? ⟨w.heap.size + 1, 0, none⟩ = some (.int .i64 m1) ∧ w'.cell? ⟨w.heap.size + 1, 1, none⟩ = some (.int .i64 m2) ∧ w'.cell? ⟨w.heap.size + 1, 2, none⟩ = some (.int .i64 m3)) W :=
 ⟨(h.b 0 rfl).c 0 rfl, (h.b 0 rfl).c 1 rfl, (h.b 0 rfl).c 2 rfl, (h.b 1 rfl).c 0 rfl, (h.b 1 rfl).c 1 rfl, (h.b 1 rfl).c 2 rfl⟩
theorem wrapI {z : Int} (h0 : -9223372036854775808 ≤ z) (h1 : z ≤ 9223372036854775807) : IntKind.i64.wrap z = z := by
 rw [IntKind.wrap_i64]
 omega
abbrev In3 (x : Int) : Prop := -2000000000000 ≤ x ∧ x ≤ 2000000000000
set_option maxRecDepth 100000 in
set_option maxHeartbeats 2000000 in
theorem crossing_det (l1 l2 l3 m1 m2 m3 : Int) (h1 : In2 l1) (h2 : In2 l2) (h3 : In3 l3) (k1 : In2 m1) (k2 : In2 m2) (k3 : In3 m3) (w : World) : Calls Tryz.prog 108 #[.agg #[.int .i64 l1, .int .i64 l2, .int .i64 l3], .agg #[.int .i64 m1, .int .i64 m2, .int .i64 m3]] w (VP (.tuple #[.int .i64 (l2 * m3 - m2 * l3), .int .i64 (l3 * m1 - m3 * l1), .int .i64 (l1 * m2 - m1 * l2)]) w) := by
 obtain ⟨p1, p2⟩ := mul_in (p := l2) (q := m3) (M := 2000000) (N := 2000000000000) h2.1 h2.2 k3.1 k3.2
 obtain ⟨q1, q2⟩ := mul_in (p := m2) (q := l3) (M := 2000000) (N := 2000000000000) k2.1 k2.2 h3.1 h3.2
 obtain ⟨r1, r2⟩ := mul_in (p := l3) (q := m1) (M := 2000000000000) (N := 2000000) h3.1 h3.2 k1.1 k1.2
 obtain ⟨s1, s2⟩ := mul_in (p := m3) (q := l1) (M := 2000000000000) (N := 2000000) k3.1 k3.2 h1.1 h1.2
 obtain ⟨t1, t2⟩ := mul_in (p := l1) (q := m2) (M := 2000000) (N := 2000000) h1.1 h1.2 k2.1 k2.2
 obtain ⟨u1, u2⟩ := mul_in (p := m1) (q := l2) (M := 2000000) (N := 2000000) k1.1 k1.2 h2.1 h2.2
 have T0 : ArgsB w ((w.alloc (.cells #[.int .i64 l1, .int .i64 l2, .int .i64 l3] 137)).alloc (.cells #[.int .i64 m1, .int .i64 m2, .int .i64 m3] 137)) [[.int .i64 l1, .int .i64 l2, .int .i64 l3], [.int .i64 m1, .int .i64 m2, .int .i64 m3]] := ar2 _ _ _ _ w
 clear h1 h2 h3 k1 k2 k3
 have e1 : IntKind.i64.wrap (l2 * m3) = l2 * m3 := wrapI (by omega) (by omega)
 have e2 : IntKind.i64.wrap (m2 * l3) = m2 * l3 := wrapI (by omega) (by omega)
 have e3 : IntKind.i64.wrap (l3 * m1) = l3 * m1 := wrapI (by omega) (by omega)
 have e4 : IntKind.i64.wrap (m3 * l1) = m3 * l1 := wrapI (by omega) (by omega)
 have e5 : IntKind.i64.wrap (l1 * m2) = l1 * m2 := wrapI (by omega) (by omega)
 have e6 : IntKind.i64.wrap (m1 * l2) = m1 * l2 := wrapI (by omega) (by omega)
 have e7 : IntKind.i64.wrap (l2 * m3 - m2 * l3) = l2 * m3 - m2 * l3 := wrapI (by omega) (by omega)
 have e8 : IntKind.i64.wrap (l3 * m1 - m3 * l1) = l3 * m1 - m3 * l1 := wrapI (by omega) (by omega)
 have e9 : IntKind.i64.wrap (l1 * m2 - m1 * l2) = l1 * m2 - m1 * l2 := wrapI (by omega) (by omega)
 go_enter Tryz.func108, Tryz.ntmps108
 go_upto_region 1 with fail
 generalize ((w.alloc (.cells #[.int .i64 l1, .int .i64 l2, .int .i64 l3] 137)).alloc (.cells #[.int .i64 m1, .int .i64 m2, .int .i64 m3] 137)) = W at *
 go_region_held3 (fun w' => w'.cell? ⟨w.heap.size, 0, none⟩ = some (.int .i64 l1) ∧ w'.cell? ⟨w.heap.size, 1, none⟩ = some (.int .i64 l2) ∧ w'.cell? ⟨w.heap.size, 2, none⟩ = some (.int .i64 l3) ∧ w'.cell? ⟨w.heap.size + 1, 0, none⟩ = some (.int .i64 m1) ∧ w'.cell? ⟨w.heap.size + 1, 1, none⟩ = some (.int .i64 m2) ∧ w'.cell? ⟨w.heap.size + 1, 2, none⟩ = some (.int .i64 m3)) ((refine cross_cells ?_ <;> repeat (first | (with_reducible exact T0) | (with_reducible refine ArgsB.drew ?_))))
   (first | fail)
 all_goals go_wp2
 all_goals refine bodyPost_ret (v := .tuple #[.int .i64 (l2 * m3 - m2 * l3), .int .i64 (l3 * m1 - m3 * l1), .int .i64 (l1 * m2 - m1 * l2)]) (by simp [results, Tryz.results108, go_sem]) rfl ?_
 all_goals first | exact ⟨rfl, T0.below⟩ | exact ⟨rfl, T0.drew.below⟩
def pt2 (t t' : Int) : Bool := (decide (0 ≤ t) || decide (0 ≤ t')) && (decide (t ≤ 0) || decide (t' ≤ 0))
structure PartZ (w wr : World) (g : Nat) (sg sl : List Value) : Prop where
 below : Below w.heap.size w wr
 seg : Blk wr w.heap.size sg
 row : Blk wr g sl
theorem PartZ.step {w wr wr' : World} {g : Nat} {sg sl : List Value} (h : PartZ w wr g sg sl) (hB : Below wr.heap.size wr wr') : PartZ w wr' g sg sl := ⟨h.below.trans (hB.mono h.below.size), h.seg.step hB, h.row.step hB⟩
theorem PartZ.alloc {w wr : World} {g : Nat} {sg sl : List Value} (h : PartZ w wr g sg sl) (o : Obj) : PartZ w (wr.alloc o) g sg sl := h.step ((Below.refl _ _).alloc (Nat.le_refl _) o)
set_option maxRecDepth 100000 in
set_option maxHeartbeats 2000000 in
theorem parts2_det (a b c d x y u v : Int) (ha : In1 a) (hb : In1 b) (hc : In1 c) (hd : In1 d) (hx : In1 x) (hy : In1 y) (hu : In1 u) (hv : In1 v) (g : Nat) (w : World) (hS : Blk w g [.int .i64 x, .int .i64 y, .int .i64 u, .int .i64 v]) :
   Calls Tryz.prog 110 #[Sg a b c d, .slice (some ⟨g, 0, none⟩) 2 2] w (VP (.bool (pt2 (turnZ a b c d x y) (turnZ a b c d u v))) w) := by
 have T1 := turnToZ_det a b c d x y ha hb hc hd hx hy
 have T2 := turnToZ_det a b c d u v ha hb hc hd hu hv
 generalize turnZ a b c d x y = t at *
 generalize turnZ a b c d u v = t' at *
 clear ha hb hc hd hx hy hu hv
 have I0 : PartZ w (w.alloc (.cells #[.int .i64 a, .int .i64 b, .int .i64 c, .int .i64 d] 83)) g [.int .i64 a, .int .i64 b, .int .i64 c, .int .i64 d] [.int .i64 x, .int .i64 y, .int .i64 u, .int .i64 v] :=
   ⟨(Below.refl _ _).alloc (Nat.le_refl _) _, Blk.new w [.int .i64 a, .int .i64 b, .int .i64 c, .int .i64 d] 83 rfl, hS.alloc _⟩
 clear hS
 go_enter Tryz.func110, Tryz.ntmps110
 go_wp2
 generalize (w.alloc (.cells #[.int .i64 a, .int .i64 b, .int .i64 c, .int .i64 d] 83)) = W at *
 go_loopw [5, 6, 12] (fun l r i wr => ∃ k : Nat, k ≤ 2 ∧ i = .int .i64 k ∧ l = .bool (if k = 0 then false else if k = 1 then decide (0 ≤ t) else decide (0 ≤ t) || decide (0 ≤ t')) ∧ r = .bool (if k = 0 then false else if k = 1 then decide (t ≤ 0) else decide (t ≤ 0) || decide (t' ≤ 0)) ∧ PartZ w wr g [.int .i64 a, .int .i64 b, .int .i64 c, .int .i64 d] [.int .i64 x, .int .i64 y, .int .i64 u, .int .i64 v]) (fun _ _ i _ => 2 - (intOf i).toNat)
 case atStart => exact ⟨0, by omega, rfl, rfl, rfl, I0⟩
 case round =>
   clear I0
   obtain ⟨k, hk, rfl, rfl, rfl, I0⟩ := hrel
   have ca0 := I0.seg.c 0 rfl; have ca1 := I0.seg.c 1 rfl; have ca2 := I0.seg.c 2 rfl; have ca3 := I0.seg.c 3 rfl; have calt := I0.seg.lt
   rcases (by omega : k = 0 ∨ k = 1 ∨ k = 2) with rfl | rfl | rfl
   · have e1 := I0.row.c 0 rfl; have e2 := I0.row.c 1 rfl
     have r1 : ∀ b c : Bool, (if (0 : Nat) = 0 then false else if (0 : Nat) = 1 then b else c) = false := fun _ _ => rfl
     rw [r1, r1]
     clear r1
     go_wp2_with fail
     refine (T1 _).mono ?_
     rintro e w1 ⟨rfl, hB⟩
     replace I0 := (I0.alloc _).step hB
     clear ca0 ca1 ca2 ca3 calt e1 e2 hB T1 T2
     go_wp2
     all_goals go_roundw
     all_goals first | exact ⟨1, by omega, rfl, rfl, rfl, I0⟩ | simp [intOf]
   · have e1 := I0.row.c 2 rfl; have e2 := I0.row.c 3 rfl
     have r1 : ∀ b c : Bool, (if (1 : Nat) = 0 then false else if (1 : Nat) = 1 then b else c) = b := fun _ _ => rfl
     rw [r1, r1]
     clear r1
     obtain ⟨L, hL⟩ : ∃ L, decide (0 ≤ t) = L := ⟨_, rfl⟩
     obtain ⟨R, hR⟩ : ∃ R, decide (t ≤ 0) = R := ⟨_, rfl⟩
     rw [hL, hR]
     clear hL hR
     go_wp2_with fail
     refine (T2 _).mono ?_
     rintro e w1 ⟨rfl, hB⟩
     replace I0 := (I0.alloc _).step hB
     clear ca0 ca1 ca2 ca3 calt e1 e2 hB T1 T2
     cases L <;> cases R
     all_goals go_wp2
     all_goals go_roundw
     all_goals first | exact ⟨2, by omega, rfl, rfl, rfl, I0⟩ | simp [intOf]
   · have r1 : ∀ b c : Bool, (if (2 : Nat) = 0 then false else if (2 : Nat) = 1 then b else c) = c := fun _ _ => rfl
     rw [r1, r1]
     clear r1
     have HP : Hid (pt2 t t' = ((decide (0 ≤ t) || decide (0 ≤ t')) && (decide (t ≤ 0) || decide (t' ≤ 0)))) := rfl
     generalize (decide (0 ≤ t) || decide (0 ≤ t')) = L at *
     generalize (decide (t ≤ 0) || decide (t' ≤ 0)) = R at *
     clear ca0 ca1 ca2 ca3 calt T1 T2
     cases L <;> cases R
     all_goals go_wp2
     all_goals go_ret
     all_goals exact ⟨by rw [HP.out]; rfl, I0.below⟩
end Go.Proofs.YtibbjjlapglndaaGreat
