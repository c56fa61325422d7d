/- The order of drawn points: the law. -/
import Derived.Test.YtgmenloipiedeaaBase16
import Derived.Test.YtgmenloipiedeaaOrdL
import Derived.Test.YtgmenloipiedeaaPtW
import Derived.Test.YtgmenloipiedeaaBase11
import Derived.Test.YtgmenloipiedeaaImplMul
namespace Go.Proofs.Ytgmenloipiedeaa
open Go.RowKit
theorem bigc_any (ao : Option Addr) (n cap : Nat) (w : World) (z : Bool) (hz : decide (1048576 < n) = z) : Calls Try.prog 6 #[.slice ao n cap] w (BoolP z w) := by
  subst hz
  go_enter Try.func6, Try.ntmps6
  go_wp2
  go_ret
  exact ⟨by simp; try omega, Below.refl _ _⟩
theorem mulW_det (x y : Int) (hx : told x = true) (hy : told y = true) (hz : told (x * y) = true) (w : World) : Calls Try.prog 20 #[W4 x, W4 y] w (VP (.tuple #[W4 (x * y), .bool true]) w) := by
  obtain ⟨a3, a2, a1, a0⟩ := ww_words x
  obtain ⟨b3, b2, b1, b0⟩ := ww_words y
  refine (implMul_any (ww3 x) (ww2 x) (ww1 x) (ww0 x) (ww3 y) (ww2 y) (ww1 y) (ww0 y) a3 a2 a1 a0 b3 b2 b1 b0 w).mono ?_
  intro e w' h
  rw [ww_sw hx, ww_sw hy] at h
  have h' := tellP_VP h
  unfold tellV at h'
  rw [if_pos hz] at h'
  exact h'
set_option maxRecDepth 100000 in
set_option maxHeartbeats 8000000 in
theorem lawPointOrder_any (ao : Option Addr) (n cap : Nat) (cs : List Int) (w : World) (h : n ≤ 1048576 → Code w ao n cs) : Calls Try.prog 5 #[.slice ao n cap] w (BoolP true w) := by
  by_cases hn : 1048576 < n
  · go_enter Try.func5, Try.ntmps5
    go_wp2_with fail
    refine (bigc_any ao n cap _ true (by simpa using hn)).mono ?_
    rintro e w1 ⟨rfl, hB⟩
    clear h
    go_wp2
    go_ret
    exact ⟨rfl, hB⟩
  · have hc := h (by omega)
    clear h
    have hnI : (n : Int) ≤ 1048576 := by omega
    go_enter Try.func5, Try.ntmps5
    go_wp2_with fail
    refine (bigc_any ao n cap _ false (by simpa using hn)).mono ?_
    rintro e w1 ⟨rfl, hB⟩
    replace hc := hc.below hB
    have HB := hB
    clear hB
    go_wp2_with fail
    refine (drawOrient_any ao n cap cs _ hc).mono ?_
    rintro e w2 ⟨x, y, z, u, v, t, a, b, c, rfl, tx, ty, tz, tu, tv, tt, ta, tb, tc, hB⟩
    replace HB := HB.trans (hB.mono HB.size)
    clear hB hc
    have I0 := implPointCmp_det x y z u v t tx ty tz tu tv tt
    have I1 := specPointCmp_det x y z u v t tx ty tz tu tv tt
    have I2 := implPointCmp_det u v t x y z tu tv tt tx ty tz
    have I3 := implPointCmp_det u v t a b c tu tv tt ta tb tc
    have I4 := implPointCmp_det x y z a b c tx ty tz ta tb tc
    have O1 := implPointOk_det x y z tx ty tz
    have O2 := implPointOk_det u v t tu tv tt
    have O3 := implPointOk_det a b c ta tb tc
    rw [ptCmp_flip x y z u v t] at I2
    have hin : ptCmp x y z u v t = -1 ∨ ptCmp x y z u v t = 0 ∨ ptCmp x y z u v t = 1 := by
      unfold ptCmp
      split
      · exact ord_in _ _ _ _ _ _
      · exact Or.inr (Or.inl rfl)
    have HC : Hid (ptB x y z = true → ptB u v t = true → ptCmp x y z u v t = ordI x y z u v t) := fun h1 h2 => by unfold ptCmp; rw [h1, h2]; rfl
    have HC2 : Hid (ptB u v t = true → ptB a b c = true → ptCmp u v t a b c = ordI u v t a b c) := fun h1 h2 => by unfold ptCmp; rw [h1, h2]; rfl
    have HC3 : Hid (ptB x y z = true → ptB a b c = true → ptCmp x y z a b c = ordI x y z a b c) := fun h1 h2 => by unfold ptCmp; rw [h1, h2]; rfl
    generalize ptCmp x y z u v t = o at *
    generalize ptCmp u v t a b c = o2 at *
    generalize ptCmp x y z a b c = o3 at *
    have Xp : Blk (((w2.alloc (.cells #[.int .u64 (ww3 x), .int .u64 (ww2 x), .int .u64 (ww1 x), .int .u64 (ww0 x), .int .u64 (ww3 y), .int .u64 (ww2 y), .int .u64 (ww1 y), .int .u64 (ww0 y), .int .u64 (ww3 z), .int .u64 (ww2 z), .int .u64 (ww1 z), .int .u64 (ww0 z)] 28)).alloc (.cells #[.int .u64 (ww3 u), .int .u64 (ww2 u), .int .u64 (ww1 u), .int .u64 (ww0 u), .int .u64 (ww3 v), .int .u64 (ww2 v), .int .u64 (ww1 v), .int .u64 (ww0 v), .int .u64 (ww3 t), .int .u64 (ww2 t), .int .u64 (ww1 t), .int .u64 (ww0 t)] 28)).alloc (.cells #[.int .u64 (ww3 a), .int .u64 (ww2 a), .int .u64 (ww1 a), .int .u64 (ww0 a), .int .u64 (ww3 b), .int .u64 (ww2 b), .int .u64 (ww1 b), .int .u64 (ww0 b), .int .u64 (ww3 c), .int .u64 (ww2 c), .int .u64 (ww1 c), .int .u64 (ww0 c)] 28)) w2.heap.size [.int .u64 (ww3 x), .int .u64 (ww2 x), .int .u64 (ww1 x), .int .u64 (ww0 x), .int .u64 (ww3 y), .int .u64 (ww2 y), .int .u64 (ww1 y), .int .u64 (ww0 y), .int .u64 (ww3 z), .int .u64 (ww2 z), .int .u64 (ww1 z), .int .u64 (ww0 z)] := ((Blk.new w2 _ _ rfl).alloc _).alloc _
    have Xq : Blk (((w2.alloc (.cells #[.int .u64 (ww3 x), .int .u64 (ww2 x), .int .u64 (ww1 x), .int .u64 (ww0 x), .int .u64 (ww3 y), .int .u64 (ww2 y), .int .u64 (ww1 y), .int .u64 (ww0 y), .int .u64 (ww3 z), .int .u64 (ww2 z), .int .u64 (ww1 z), .int .u64 (ww0 z)] 28)).alloc (.cells #[.int .u64 (ww3 u), .int .u64 (ww2 u), .int .u64 (ww1 u), .int .u64 (ww0 u), .int .u64 (ww3 v), .int .u64 (ww2 v), .int .u64 (ww1 v), .int .u64 (ww0 v), .int .u64 (ww3 t), .int .u64 (ww2 t), .int .u64 (ww1 t), .int .u64 (ww0 t)] 28)).alloc (.cells #[.int .u64 (ww3 a), .int .u64 (ww2 a), .int .u64 (ww1 a), .int .u64 (ww0 a), .int .u64 (ww3 b), .int .u64 (ww2 b), .int .u64 (ww1 b), .int .u64 (ww0 b), .int .u64 (ww3 c), .int .u64 (ww2 c), .int .u64 (ww1 c), .int .u64 (ww0 c)] 28)) (w2.heap.size + 1) [.int .u64 (ww3 u), .int .u64 (ww2 u), .int .u64 (ww1 u), .int .u64 (ww0 u), .int .u64 (ww3 v), .int .u64 (ww2 v), .int .u64 (ww1 v), .int .u64 (ww0 v), .int .u64 (ww3 t), .int .u64 (ww2 t), .int .u64 (ww1 t), .int .u64 (ww0 t)] := (Blk.new (w2.alloc (.cells #[.int .u64 (ww3 x), .int .u64 (ww2 x), .int .u64 (ww1 x), .int .u64 (ww0 x), .int .u64 (ww3 y), .int .u64 (ww2 y), .int .u64 (ww1 y), .int .u64 (ww0 y), .int .u64 (ww3 z), .int .u64 (ww2 z), .int .u64 (ww1 z), .int .u64 (ww0 z)] 28)) _ _ (by simp)).alloc _
    have Xm : Blk (((w2.alloc (.cells #[.int .u64 (ww3 x), .int .u64 (ww2 x), .int .u64 (ww1 x), .int .u64 (ww0 x), .int .u64 (ww3 y), .int .u64 (ww2 y), .int .u64 (ww1 y), .int .u64 (ww0 y), .int .u64 (ww3 z), .int .u64 (ww2 z), .int .u64 (ww1 z), .int .u64 (ww0 z)] 28)).alloc (.cells #[.int .u64 (ww3 u), .int .u64 (ww2 u), .int .u64 (ww1 u), .int .u64 (ww0 u), .int .u64 (ww3 v), .int .u64 (ww2 v), .int .u64 (ww1 v), .int .u64 (ww0 v), .int .u64 (ww3 t), .int .u64 (ww2 t), .int .u64 (ww1 t), .int .u64 (ww0 t)] 28)).alloc (.cells #[.int .u64 (ww3 a), .int .u64 (ww2 a), .int .u64 (ww1 a), .int .u64 (ww0 a), .int .u64 (ww3 b), .int .u64 (ww2 b), .int .u64 (ww1 b), .int .u64 (ww0 b), .int .u64 (ww3 c), .int .u64 (ww2 c), .int .u64 (ww1 c), .int .u64 (ww0 c)] 28)) (w2.heap.size + 1 + 1) [.int .u64 (ww3 a), .int .u64 (ww2 a), .int .u64 (ww1 a), .int .u64 (ww0 a), .int .u64 (ww3 b), .int .u64 (ww2 b), .int .u64 (ww1 b), .int .u64 (ww0 b), .int .u64 (ww3 c), .int .u64 (ww2 c), .int .u64 (ww1 c), .int .u64 (ww0 c)] := Blk.new ((w2.alloc (.cells #[.int .u64 (ww3 x), .int .u64 (ww2 x), .int .u64 (ww1 x), .int .u64 (ww0 x), .int .u64 (ww3 y), .int .u64 (ww2 y), .int .u64 (ww1 y), .int .u64 (ww0 y), .int .u64 (ww3 z), .int .u64 (ww2 z), .int .u64 (ww1 z), .int .u64 (ww0 z)] 28)).alloc (.cells #[.int .u64 (ww3 u), .int .u64 (ww2 u), .int .u64 (ww1 u), .int .u64 (ww0 u), .int .u64 (ww3 v), .int .u64 (ww2 v), .int .u64 (ww1 v), .int .u64 (ww0 v), .int .u64 (ww3 t), .int .u64 (ww2 t), .int .u64 (ww1 t), .int .u64 (ww0 t)] 28)) _ _ (by simp)
    replace HB := ((HB.alloc HB.size (.cells #[.int .u64 (ww3 x), .int .u64 (ww2 x), .int .u64 (ww1 x), .int .u64 (ww0 x), .int .u64 (ww3 y), .int .u64 (ww2 y), .int .u64 (ww1 y), .int .u64 (ww0 y), .int .u64 (ww3 z), .int .u64 (ww2 z), .int .u64 (ww1 z), .int .u64 (ww0 z)] 28)).alloc (HB.alloc HB.size (.cells #[.int .u64 (ww3 x), .int .u64 (ww2 x), .int .u64 (ww1 x), .int .u64 (ww0 x), .int .u64 (ww3 y), .int .u64 (ww2 y), .int .u64 (ww1 y), .int .u64 (ww0 y), .int .u64 (ww3 z), .int .u64 (ww2 z), .int .u64 (ww1 z), .int .u64 (ww0 z)] 28)).size (.cells #[.int .u64 (ww3 u), .int .u64 (ww2 u), .int .u64 (ww1 u), .int .u64 (ww0 u), .int .u64 (ww3 v), .int .u64 (ww2 v), .int .u64 (ww1 v), .int .u64 (ww0 v), .int .u64 (ww3 t), .int .u64 (ww2 t), .int .u64 (ww1 t), .int .u64 (ww0 t)] 28)).alloc ((HB.alloc HB.size (.cells #[.int .u64 (ww3 x), .int .u64 (ww2 x), .int .u64 (ww1 x), .int .u64 (ww0 x), .int .u64 (ww3 y), .int .u64 (ww2 y), .int .u64 (ww1 y), .int .u64 (ww0 y), .int .u64 (ww3 z), .int .u64 (ww2 z), .int .u64 (ww1 z), .int .u64 (ww0 z)] 28)).alloc (HB.alloc HB.size (.cells #[.int .u64 (ww3 x), .int .u64 (ww2 x), .int .u64 (ww1 x), .int .u64 (ww0 x), .int .u64 (ww3 y), .int .u64 (ww2 y), .int .u64 (ww1 y), .int .u64 (ww0 y), .int .u64 (ww3 z), .int .u64 (ww2 z), .int .u64 (ww1 z), .int .u64 (ww0 z)] 28)).size (.cells #[.int .u64 (ww3 u), .int .u64 (ww2 u), .int .u64 (ww1 u), .int .u64 (ww0 u), .int .u64 (ww3 v), .int .u64 (ww2 v), .int .u64 (ww1 v), .int .u64 (ww0 v), .int .u64 (ww3 t), .int .u64 (ww2 t), .int .u64 (ww1 t), .int .u64 (ww0 t)] 28)).size (.cells #[.int .u64 (ww3 a), .int .u64 (ww2 a), .int .u64 (ww1 a), .int .u64 (ww0 a), .int .u64 (ww3 b), .int .u64 (ww2 b), .int .u64 (ww1 b), .int .u64 (ww0 b), .int .u64 (ww3 c), .int .u64 (ww2 c), .int .u64 (ww1 c), .int .u64 (ww0 c)] 28)
    have hoo : (o == o) = true := by simp
    have b0 : -1 ≤ o := by omega
    have b1 : o ≤ 1 := by omega
    have p0 := Xp.c 0 rfl; have p1 := Xp.c 1 rfl; have p2 := Xp.c 2 rfl; have p3 := Xp.c 3 rfl; have p4 := Xp.c 4 rfl; have p5 := Xp.c 5 rfl; have p6 := Xp.c 6 rfl; have p7 := Xp.c 7 rfl; have p8 := Xp.c 8 rfl; have p9 := Xp.c 9 rfl; have p10 := Xp.c 10 rfl; have p11 := Xp.c 11 rfl; have q0 := Xq.c 0 rfl; have q1 := Xq.c 1 rfl; have q2 := Xq.c 2 rfl; have q3 := Xq.c 3 rfl; have q4 := Xq.c 4 rfl; have q5 := Xq.c 5 rfl; have q6 := Xq.c 6 rfl; have q7 := Xq.c 7 rfl; have q8 := Xq.c 8 rfl; have q9 := Xq.c 9 rfl; have q10 := Xq.c 10 rfl; have q11 := Xq.c 11 rfl; have m0 := Xm.c 0 rfl; have m1 := Xm.c 1 rfl; have m2 := Xm.c 2 rfl; have m3 := Xm.c 3 rfl; have m4 := Xm.c 4 rfl; have m5 := Xm.c 5 rfl; have m6 := Xm.c 6 rfl; have m7 := Xm.c 7 rfl; have m8 := Xm.c 8 rfl; have m9 := Xm.c 9 rfl; have m10 := Xm.c 10 rfl; have m11 := Xm.c 11 rfl
    go_wp2_with fail
    refine (I0 _).mono ?_
    rintro e v0 ⟨rfl, hB⟩
    replace Xp := Xp.step hB; replace Xq := Xq.step hB; replace Xm := Xm.step hB; replace HB := HB.trans (hB.mono HB.size)
    clear hB p0 p1 p2 p3 p4 p5 p6 p7 p8 p9 p10 p11 q0 q1 q2 q3 q4 q5 q6 q7 q8 q9 q10 q11 m0 m1 m2 m3 m4 m5 m6 m7 m8 m9 m10 m11
    have p0 := Xp.c 0 rfl; have p1 := Xp.c 1 rfl; have p2 := Xp.c 2 rfl; have p3 := Xp.c 3 rfl; have p4 := Xp.c 4 rfl; have p5 := Xp.c 5 rfl; have p6 := Xp.c 6 rfl; have p7 := Xp.c 7 rfl; have p8 := Xp.c 8 rfl; have p9 := Xp.c 9 rfl; have p10 := Xp.c 10 rfl; have p11 := Xp.c 11 rfl; have q0 := Xq.c 0 rfl; have q1 := Xq.c 1 rfl; have q2 := Xq.c 2 rfl; have q3 := Xq.c 3 rfl; have q4 := Xq.c 4 rfl; have q5 := Xq.c 5 rfl; have q6 := Xq.c 6 rfl; have q7 := Xq.c 7 rfl; have q8 := Xq.c 8 rfl; have q9 := Xq.c 9 rfl; have q10 := Xq.c 10 rfl; have q11 := Xq.c 11 rfl; have m0 := Xm.c 0 rfl; have m1 := Xm.c 1 rfl; have m2 := Xm.c 2 rfl; have m3 := Xm.c 3 rfl; have m4 := Xm.c 4 rfl; have m5 := Xm.c 5 rfl; have m6 := Xm.c 6 rfl; have m7 := Xm.c 7 rfl; have m8 := Xm.c 8 rfl; have m9 := Xm.c 9 rfl; have m10 := Xm.c 10 rfl; have m11 := Xm.c 11 rfl
    go_wp2_with fail
    refine (I1 _).mono ?_
    rintro e v1 ⟨rfl, hB⟩
    replace Xp := Xp.step hB; replace Xq := Xq.step hB; replace Xm := Xm.step hB; replace HB := HB.trans (hB.mono HB.size)
    clear hB p0 p1 p2 p3 p4 p5 p6 p7 p8 p9 p10 p11 q0 q1 q2 q3 q4 q5 q6 q7 q8 q9 q10 q11 m0 m1 m2 m3 m4 m5 m6 m7 m8 m9 m10 m11
    have p0 := Xp.c 0 rfl; have p1 := Xp.c 1 rfl; have p2 := Xp.c 2 rfl; have p3 := Xp.c 3 rfl; have p4 := Xp.c 4 rfl; have p5 := Xp.c 5 rfl; have p6 := Xp.c 6 rfl; have p7 := Xp.c 7 rfl; have p8 := Xp.c 8 rfl; have p9 := Xp.c 9 rfl; have p10 := Xp.c 10 rfl; have p11 := Xp.c 11 rfl; have q0 := Xq.c 0 rfl; have q1 := Xq.c 1 rfl; have q2 := Xq.c 2 rfl; have q3 := Xq.c 3 rfl; have q4 := Xq.c 4 rfl; have q5 := Xq.c 5 rfl; have q6 := Xq.c 6 rfl; have q7 := Xq.c 7 rfl; have q8 := Xq.c 8 rfl; have q9 := Xq.c 9 rfl; have q10 := Xq.c 10 rfl; have q11 := Xq.c 11 rfl; have m0 := Xm.c 0 rfl; have m1 := Xm.c 1 rfl; have m2 := Xm.c 2 rfl; have m3 := Xm.c 3 rfl; have m4 := Xm.c 4 rfl; have m5 := Xm.c 5 rfl; have m6 := Xm.c 6 rfl; have m7 := Xm.c 7 rfl; have m8 := Xm.c 8 rfl; have m9 := Xm.c 9 rfl; have m10 := Xm.c 10 rfl; have m11 := Xm.c 11 rfl
    go_wp2_with fail
    refine (I2 _).mono ?_
    rintro e v2 ⟨rfl, hB⟩
    replace Xp := Xp.step hB; replace Xq := Xq.step hB; replace Xm := Xm.step hB; replace HB := HB.trans (hB.mono HB.size)
    clear hB p0 p1 p2 p3 p4 p5 p6 p7 p8 p9 p10 p11 q0 q1 q2 q3 q4 q5 q6 q7 q8 q9 q10 q11 m0 m1 m2 m3 m4 m5 m6 m7 m8 m9 m10 m11
    have p0 := Xp.c 0 rfl; have p1 := Xp.c 1 rfl; have p2 := Xp.c 2 rfl; have p3 := Xp.c 3 rfl; have p4 := Xp.c 4 rfl; have p5 := Xp.c 5 rfl; have p6 := Xp.c 6 rfl; have p7 := Xp.c 7 rfl; have p8 := Xp.c 8 rfl; have p9 := Xp.c 9 rfl; have p10 := Xp.c 10 rfl; have p11 := Xp.c 11 rfl; have q0 := Xq.c 0 rfl; have q1 := Xq.c 1 rfl; have q2 := Xq.c 2 rfl; have q3 := Xq.c 3 rfl; have q4 := Xq.c 4 rfl; have q5 := Xq.c 5 rfl; have q6 := Xq.c 6 rfl; have q7 := Xq.c 7 rfl; have q8 := Xq.c 8 rfl; have q9 := Xq.c 9 rfl; have q10 := Xq.c 10 rfl; have q11 := Xq.c 11 rfl; have m0 := Xm.c 0 rfl; have m1 := Xm.c 1 rfl; have m2 := Xm.c 2 rfl; have m3 := Xm.c 3 rfl; have m4 := Xm.c 4 rfl; have m5 := Xm.c 5 rfl; have m6 := Xm.c 6 rfl; have m7 := Xm.c 7 rfl; have m8 := Xm.c 8 rfl; have m9 := Xm.c 9 rfl; have m10 := Xm.c 10 rfl; have m11 := Xm.c 11 rfl
    go_wp2_with fail
    refine (O1 _).mono ?_
    rintro e v3 ⟨rfl, hB⟩
    replace Xp := Xp.step hB; replace Xq := Xq.step hB; replace Xm := Xm.step hB; replace HB := HB.trans (hB.mono HB.size)
    clear hB p0 p1 p2 p3 p4 p5 p6 p7 p8 p9 p10 p11 q0 q1 q2 q3 q4 q5 q6 q7 q8 q9 q10 q11 m0 m1 m2 m3 m4 m5 m6 m7 m8 m9 m10 m11
    by_cases h1 : ptB x y z = true
    · rw [h1]
      have p0 := Xp.c 0 rfl; have p1 := Xp.c 1 rfl; have p2 := Xp.c 2 rfl; have p3 := Xp.c 3 rfl; have p4 := Xp.c 4 rfl; have p5 := Xp.c 5 rfl; have p6 := Xp.c 6 rfl; have p7 := Xp.c 7 rfl; have p8 := Xp.c 8 rfl; have p9 := Xp.c 9 rfl; have p10 := Xp.c 10 rfl; have p11 := Xp.c 11 rfl; have q0 := Xq.c 0 rfl; have q1 := Xq.c 1 rfl; have q2 := Xq.c 2 rfl; have q3 := Xq.c 3 rfl; have q4 := Xq.c 4 rfl; have q5 := Xq.c 5 rfl; have q6 := Xq.c 6 rfl; have q7 := Xq.c 7 rfl; have q8 := Xq.c 8 rfl; have q9 := Xq.c 9 rfl; have q10 := Xq.c 10 rfl; have q11 := Xq.c 11 rfl; have m0 := Xm.c 0 rfl; have m1 := Xm.c 1 rfl; have m2 := Xm.c 2 rfl; have m3 := Xm.c 3 rfl; have m4 := Xm.c 4 rfl; have m5 := Xm.c 5 rfl; have m6 := Xm.c 6 rfl; have m7 := Xm.c 7 rfl; have m8 := Xm.c 8 rfl; have m9 := Xm.c 9 rfl; have m10 := Xm.c 10 rfl; have m11 := Xm.c 11 rfl
      go_wp2_with fail
      refine (O2 _).mono ?_
      rintro e v4 ⟨rfl, hB⟩
      replace Xp := Xp.step hB; replace Xq := Xq.step hB; replace Xm := Xm.step hB; replace HB := HB.trans (hB.mono HB.size)
      clear hB p0 p1 p2 p3 p4 p5 p6 p7 p8 p9 p10 p11 q0 q1 q2 q3 q4 q5 q6 q7 q8 q9 q10 q11 m0 m1 m2 m3 m4 m5 m6 m7 m8 m9 m10 m11
      by_cases h2 : ptB u v t = true
      · rw [h2]
        have p0 := Xp.c 0 rfl; have p1 := Xp.c 1 rfl; have p2 := Xp.c 2 rfl; have p3 := Xp.c 3 rfl; have p4 := Xp.c 4 rfl; have p5 := Xp.c 5 rfl; have p6 := Xp.c 6 rfl; have p7 := Xp.c 7 rfl; have p8 := Xp.c 8 rfl; have p9 := Xp.c 9 rfl; have p10 := Xp.c 10 rfl; have p11 := Xp.c 11 rfl; have q0 := Xq.c 0 rfl; have q1 := Xq.c 1 rfl; have q2 := Xq.c 2 rfl; have q3 := Xq.c 3 rfl; have q4 := Xq.c 4 rfl; have q5 := Xq.c 5 rfl; have q6 := Xq.c 6 rfl; have q7 := Xq.c 7 rfl; have q8 := Xq.c 8 rfl; have q9 := Xq.c 9 rfl; have q10 := Xq.c 10 rfl; have q11 := Xq.c 11 rfl; have m0 := Xm.c 0 rfl; have m1 := Xm.c 1 rfl; have m2 := Xm.c 2 rfl; have m3 := Xm.c 3 rfl; have m4 := Xm.c 4 rfl; have m5 := Xm.c 5 rfl; have m6 := Xm.c 6 rfl; have m7 := Xm.c 7 rfl; have m8 := Xm.c 8 rfl; have m9 := Xm.c 9 rfl; have m10 := Xm.c 10 rfl; have m11 := Xm.c 11 rfl
        go_wp2_with fail
        refine (O3 _).mono ?_
        rintro e v5 ⟨rfl, hB⟩
        replace Xp := Xp.step hB; replace Xq := Xq.step hB; replace Xm := Xm.step hB; replace HB := HB.trans (hB.mono HB.size)
        clear hB p0 p1 p2 p3 p4 p5 p6 p7 p8 p9 p10 p11 q0 q1 q2 q3 q4 q5 q6 q7 q8 q9 q10 q11 m0 m1 m2 m3 m4 m5 m6 m7 m8 m9 m10 m11
        by_cases h3 : ptB a b c = true
        · rw [h3]
          have ho := (HC.out h1 h2).symm; have ho2 := (HC2.out h2 h3).symm; have ho3 := (HC3.out h1 h3).symm
          clear HC HC2 HC3 I0 I1 I2 O1 O2 O3
          have EQ := eqPV x y z u v t tx ty tz tu tv tt
          have EE := eqPV x y z x y z tx ty tz tx ty tz
          have e0 : (decide (x = u) && decide (y = v) && decide (z = t)) = (o == 0) := by
            rw [Bool.eq_iff_iff]
            simp
            rw [← ho, show (x = u ∧ y = v) ∧ z = t ↔ x = u ∧ y = v ∧ z = t by constructor <;> (rintro h; simp_all)]
            exact (ord_zero h1 h2).symm
          rw [e0] at EQ
          obtain ⟨pz, sx, sy, sz⟩ := ptB_small h1
          obtain ⟨pt, -, -, -⟩ := ptB_small h2
          obtain ⟨pc, -, -, -⟩ := ptB_small h3
          obtain ⟨k, hk⟩ : ∃ k : Int, (n : Int) % 7 - 9 = k := ⟨_, rfl⟩
          have hk1 : -9 ≤ k ∧ k ≤ -3 := by omega
          have bx := sm_lt sx; have by' := sm_lt sy; have bz := sm_lt sz
          have ax := abs_mul (a := x) (b := k) (m := 1208925819614629174706176) (n := 9) (by omega) (by omega)
          have ay := abs_mul (a := y) (b := k) (m := 1208925819614629174706176) (n := 9) (by omega) (by omega)
          have az := abs_mul (a := z) (b := k) (m := 1208925819614629174706176) (n := 9) (by omega) (by omega)
          have KO := fun w => implOf_det k w (by omega) (by omega)
          have M1 := mulW_det x k tx (told_small (small_int (by omega) (by omega))) (told_of (by omega))
          have M2 := mulW_det y k ty (told_small (small_int (by omega) (by omega))) (told_of (by omega))
          have M3 := mulW_det z k tz (told_small (small_int (by omega) (by omega))) (told_of (by omega))
          have PM := implPointMake_det (x * k) (y * k) (z * k) (told_of (by omega)) (told_of (by omega)) (told_of (by omega))
          rw [pm_times h1 (by omega)] at PM
          have tr : o ≤ 0 → o2 ≤ 0 → o3 ≤ 0 := fun a1 a2 => by
            rw [← ho] at a1
            rw [← ho2] at a2
            rw [← ho3]
            exact ord_trans pz pc pt a1 a2
          clear bx by' bz ax ay az sx sy sz pz pt pc e0 ho ho2 ho3 h1 h2 h3
          generalize x * k = xk at *
          generalize y * k = yk at *
          generalize z * k = zk at *
          have hkw : wrap64 ((n : Int) % 7 - 9) = k := by rw [hk]; unfold wrap64; omega
          have eeT : (decide (x = x) && decide (y = y) && decide (z = z)) = true := by simp
          rw [eeT] at EE
          clear eeT
          by_cases q1 : o ≤ 0
          · have q1' : ((o == 0) != (o == 0)) = false := by simp
            have p0 := Xp.c 0 rfl; have p1 := Xp.c 1 rfl; have p2 := Xp.c 2 rfl; have p3 := Xp.c 3 rfl; have p4 := Xp.c 4 rfl; have p5 := Xp.c 5 rfl; have p6 := Xp.c 6 rfl; have p7 := Xp.c 7 rfl; have p8 := Xp.c 8 rfl; have p9 := Xp.c 9 rfl; have p10 := Xp.c 10 rfl; have p11 := Xp.c 11 rfl; have q0 := Xq.c 0 rfl; have q1 := Xq.c 1 rfl; have q2 := Xq.c 2 rfl; have q3 := Xq.c 3 rfl; have q4 := Xq.c 4 rfl; have q5 := Xq.c 5 rfl; have q6 := Xq.c 6 rfl; have q7 := Xq.c 7 rfl; have q8 := Xq.c 8 rfl; have q9 := Xq.c 9 rfl; have q10 := Xq.c 10 rfl; have q11 := Xq.c 11 rfl; have m0 := Xm.c 0 rfl; have m1 := Xm.c 1 rfl; have m2 := Xm.c 2 rfl; have m3 := Xm.c 3 rfl; have m4 := Xm.c 4 rfl; have m5 := Xm.c 5 rfl; have m6 := Xm.c 6 rfl; have m7 := Xm.c 7 rfl; have m8 := Xm.c 8 rfl; have m9 := Xm.c 9 rfl; have m10 := Xm.c 10 rfl; have m11 := Xm.c 11 rfl
            go_wp2_with fail
            refine (I3 _).mono ?_
            rintro e v6 ⟨rfl, hB⟩
            replace Xp := Xp.step hB; replace Xq := Xq.step hB; replace Xm := Xm.step hB; replace HB := HB.trans (hB.mono HB.size)
            clear hB p0 p1 p2 p3 p4 p5 p6 p7 p8 p9 p10 p11 q0 q1 q2 q3 q4 q5 q6 q7 q8 q9 q10 q11 m0 m1 m2 m3 m4 m5 m6 m7 m8 m9 m10 m11
            by_cases q2 : o2 ≤ 0
            · have q3 := tr q1 q2
              clear tr
              have p0 := Xp.c 0 rfl; have p1 := Xp.c 1 rfl; have p2 := Xp.c 2 rfl; have p3 := Xp.c 3 rfl; have p4 := Xp.c 4 rfl; have p5 := Xp.c 5 rfl; have p6 := Xp.c 6 rfl; have p7 := Xp.c 7 rfl; have p8 := Xp.c 8 rfl; have p9 := Xp.c 9 rfl; have p10 := Xp.c 10 rfl; have p11 := Xp.c 11 rfl; have q0 := Xq.c 0 rfl; have q1 := Xq.c 1 rfl; have q2 := Xq.c 2 rfl; have q3 := Xq.c 3 rfl; have q4 := Xq.c 4 rfl; have q5 := Xq.c 5 rfl; have q6 := Xq.c 6 rfl; have q7 := Xq.c 7 rfl; have q8 := Xq.c 8 rfl; have q9 := Xq.c 9 rfl; have q10 := Xq.c 10 rfl; have q11 := Xq.c 11 rfl; have m0 := Xm.c 0 rfl; have m1 := Xm.c 1 rfl; have m2 := Xm.c 2 rfl; have m3 := Xm.c 3 rfl; have m4 := Xm.c 4 rfl; have m5 := Xm.c 5 rfl; have m6 := Xm.c 6 rfl; have m7 := Xm.c 7 rfl; have m8 := Xm.c 8 rfl; have m9 := Xm.c 9 rfl; have m10 := Xm.c 10 rfl; have m11 := Xm.c 11 rfl
              go_wp2_with fail
              refine (I4 _).mono ?_
              rintro e v7 ⟨rfl, hB⟩
              replace Xp := Xp.step hB; replace Xq := Xq.step hB; replace Xm := Xm.step hB; replace HB := HB.trans (hB.mono HB.size)
              clear hB p0 p1 p2 p3 p4 p5 p6 p7 p8 p9 p10 p11 q0 q1 q2 q3 q4 q5 q6 q7 q8 q9 q10 q11 m0 m1 m2 m3 m4 m5 m6 m7 m8 m9 m10 m11
              have p0 := Xp.c 0 rfl; have p1 := Xp.c 1 rfl; have p2 := Xp.c 2 rfl; have p3 := Xp.c 3 rfl; have p4 := Xp.c 4 rfl; have p5 := Xp.c 5 rfl; have p6 := Xp.c 6 rfl; have p7 := Xp.c 7 rfl; have p8 := Xp.c 8 rfl; have p9 := Xp.c 9 rfl; have p10 := Xp.c 10 rfl; have p11 := Xp.c 11 rfl; have q0 := Xq.c 0 rfl; have q1 := Xq.c 1 rfl; have q2 := Xq.c 2 rfl; have q3 := Xq.c 3 rfl; have q4 := Xq.c 4 rfl; have q5 := Xq.c 5 rfl; have q6 := Xq.c 6 rfl; have q7 := Xq.c 7 rfl; have q8 := Xq.c 8 rfl; have q9 := Xq.c 9 rfl; have q10 := Xq.c 10 rfl; have q11 := Xq.c 11 rfl; have m0 := Xm.c 0 rfl; have m1 := Xm.c 1 rfl; have m2 := Xm.c 2 rfl; have m3 := Xm.c 3 rfl; have m4 := Xm.c 4 rfl; have m5 := Xm.c 5 rfl; have m6 := Xm.c 6 rfl; have m7 := Xm.c 7 rfl; have m8 := Xm.c 8 rfl; have m9 := Xm.c 9 rfl; have m10 := Xm.c 10 rfl; have m11 := Xm.c 11 rfl
              go_wp2_with fail
              refine (KO _).mono ?_
              rintro e u1 ⟨rfl, hB⟩
              replace Xp := (Xp.step hB).alloc (.cells #[.int .u64 (ww3 k), .int .u64 (ww2 k), .int .u64 (ww1 k), .int .u64 (ww0 k)] 26); replace Xq := (Xq.step hB).alloc (.cells #[.int .u64 (ww3 k), .int .u64 (ww2 k), .int .u64 (ww1 k), .int .u64 (ww0 k)] 26); replace Xm := (Xm.step hB).alloc (.cells #[.int .u64 (ww3 k), .int .u64 (ww2 k), .int .u64 (ww1 k), .int .u64 (ww0 k)] 26)
              have Xk := Blk.new u1 [.int .u64 (ww3 k), .int .u64 (ww2 k), .int .u64 (ww1 k), .int .u64 (ww0 k)] 26 rfl
              replace HB := (HB.trans (hB.mono HB.size)).alloc (HB.trans (hB.mono HB.size)).size (.cells #[.int .u64 (ww3 k), .int .u64 (ww2 k), .int .u64 (ww1 k), .int .u64 (ww0 k)] 26)
              clear hB p0 p1 p2 p3 p4 p5 p6 p7 p8 p9 p10 p11 q0 q1 q2 q3 q4 q5 q6 q7 q8 q9 q10 q11 m0 m1 m2 m3 m4 m5 m6 m7 m8 m9 m10 m11
              have p0 := Xp.c 0 rfl; have p1 := Xp.c 1 rfl; have p2 := Xp.c 2 rfl; have p3 := Xp.c 3 rfl; have p4 := Xp.c 4 rfl; have p5 := Xp.c 5 rfl; have p6 := Xp.c 6 rfl; have p7 := Xp.c 7 rfl; have p8 := Xp.c 8 rfl; have p9 := Xp.c 9 rfl; have p10 := Xp.c 10 rfl; have p11 := Xp.c 11 rfl; have q0 := Xq.c 0 rfl; have q1 := Xq.c 1 rfl; have q2 := Xq.c 2 rfl; have q3 := Xq.c 3 rfl; have q4 := Xq.c 4 rfl; have q5 := Xq.c 5 rfl; have q6 := Xq.c 6 rfl; have q7 := Xq.c 7 rfl; have q8 := Xq.c 8 rfl; have q9 := Xq.c 9 rfl; have q10 := Xq.c 10 rfl; have q11 := Xq.c 11 rfl; have m0 := Xm.c 0 rfl; have m1 := Xm.c 1 rfl; have m2 := Xm.c 2 rfl; have m3 := Xm.c 3 rfl; have m4 := Xm.c 4 rfl; have m5 := Xm.c 5 rfl; have m6 := Xm.c 6 rfl; have m7 := Xm.c 7 rfl; have m8 := Xm.c 8 rfl; have m9 := Xm.c 9 rfl; have m10 := Xm.c 10 rfl; have m11 := Xm.c 11 rfl
              have kk0 := Xk.c 0 rfl; have kk1 := Xk.c 1 rfl; have kk2 := Xk.c 2 rfl; have kk3 := Xk.c 3 rfl
              go_wp2_with fail
              refine (M1 _).mono ?_
              rintro e u2 ⟨rfl, hB⟩
              replace Xp := (Xp.step hB).alloc (.cells #[.int .u64 (ww3 xk), .int .u64 (ww2 xk), .int .u64 (ww1 xk), .int .u64 (ww0 xk)] 26)
              replace Xq := (Xq.step hB).alloc (.cells #[.int .u64 (ww3 xk), .int .u64 (ww2 xk), .int .u64 (ww1 xk), .int .u64 (ww0 xk)] 26)
              replace Xm := (Xm.step hB).alloc (.cells #[.int .u64 (ww3 xk), .int .u64 (ww2 xk), .int .u64 (ww1 xk), .int .u64 (ww0 xk)] 26)
              replace Xk := (Xk.step hB).alloc (.cells #[.int .u64 (ww3 xk), .int .u64 (ww2 xk), .int .u64 (ww1 xk), .int .u64 (ww0 xk)] 26)
              have Xxk := Blk.new u2 [.int .u64 (ww3 xk), .int .u64 (ww2 xk), .int .u64 (ww1 xk), .int .u64 (ww0 xk)] 26 rfl
              replace HB := (HB.trans (hB.mono HB.size)).alloc (HB.trans (hB.mono HB.size)).size (.cells #[.int .u64 (ww3 xk), .int .u64 (ww2 xk), .int .u64 (ww1 xk), .int .u64 (ww0 xk)] 26)
              clear hB p0 p1 p2 p3 p4 p5 p6 p7 p8 p9 p10 p11 q0 q1 q2 q3 q4 q5 q6 q7 q8 q9 q10 q11 m0 m1 m2 m3 m4 m5 m6 m7 m8 m9 m10 m11 kk0 kk1 kk2 kk3
              have p0 := Xp.c 0 rfl; have p1 := Xp.c 1 rfl; have p2 := Xp.c 2 rfl; have p3 := Xp.c 3 rfl; have p4 := Xp.c 4 rfl; have p5 := Xp.c 5 rfl; have p6 := Xp.c 6 rfl; have p7 := Xp.c 7 rfl; have p8 := Xp.c 8 rfl; have p9 := Xp.c 9 rfl; have p10 := Xp.c 10 rfl; have p11 := Xp.c 11 rfl; have q0 := Xq.c 0 rfl; have q1 := Xq.c 1 rfl; have q2 := Xq.c 2 rfl; have q3 := Xq.c 3 rfl; have q4 := Xq.c 4 rfl; have q5 := Xq.c 5 rfl; have q6 := Xq.c 6 rfl; have q7 := Xq.c 7 rfl; have q8 := Xq.c 8 rfl; have q9 := Xq.c 9 rfl; have q10 := Xq.c 10 rfl; have q11 := Xq.c 11 rfl; have m0 := Xm.c 0 rfl; have m1 := Xm.c 1 rfl; have m2 := Xm.c 2 rfl; have m3 := Xm.c 3 rfl; have m4 := Xm.c 4 rfl; have m5 := Xm.c 5 rfl; have m6 := Xm.c 6 rfl; have m7 := Xm.c 7 rfl; have m8 := Xm.c 8 rfl; have m9 := Xm.c 9 rfl; have m10 := Xm.c 10 rfl; have m11 := Xm.c 11 rfl
              have kk0 := Xk.c 0 rfl; have kk1 := Xk.c 1 rfl; have kk2 := Xk.c 2 rfl; have kk3 := Xk.c 3 rfl
              go_wp2_with fail
              refine (M2 _).mono ?_
              rintro e u3 ⟨rfl, hB⟩
              replace Xp := (Xp.step hB).alloc (.cells #[.int .u64 (ww3 yk), .int .u64 (ww2 yk), .int .u64 (ww1 yk), .int .u64 (ww0 yk)] 26)
              replace Xq := (Xq.step hB).alloc (.cells #[.int .u64 (ww3 yk), .int .u64 (ww2 yk), .int .u64 (ww1 yk), .int .u64 (ww0 yk)] 26)
              replace Xm := (Xm.step hB).alloc (.cells #[.int .u64 (ww3 yk), .int .u64 (ww2 yk), .int .u64 (ww1 yk), .int .u64 (ww0 yk)] 26)
              replace Xk := (Xk.step hB).alloc (.cells #[.int .u64 (ww3 yk), .int .u64 (ww2 yk), .int .u64 (ww1 yk), .int .u64 (ww0 yk)] 26)
              replace Xxk := (Xxk.step hB).alloc (.cells #[.int .u64 (ww3 yk), .int .u64 (ww2 yk), .int .u64 (ww1 yk), .int .u64 (ww0 yk)] 26)
              have Xyk := Blk.new u3 [.int .u64 (ww3 yk), .int .u64 (ww2 yk), .int .u64 (ww1 yk), .int .u64 (ww0 yk)] 26 rfl
              replace HB := (HB.trans (hB.mono HB.size)).alloc (HB.trans (hB.mono HB.size)).size (.cells #[.int .u64 (ww3 yk), .int .u64 (ww2 yk), .int .u64 (ww1 yk), .int .u64 (ww0 yk)] 26)
              clear hB p0 p1 p2 p3 p4 p5 p6 p7 p8 p9 p10 p11 q0 q1 q2 q3 q4 q5 q6 q7 q8 q9 q10 q11 m0 m1 m2 m3 m4 m5 m6 m7 m8 m9 m10 m11 kk0 kk1 kk2 kk3
              have p0 := Xp.c 0 rfl; have p1 := Xp.c 1 rfl; have p2 := Xp.c 2 rfl; have p3 := Xp.c 3 rfl; have p4 := Xp.c 4 rfl; have p5 := Xp.c 5 rfl; have p6 := Xp.c 6 rfl; have p7 := Xp.c 7 rfl; have p8 := Xp.c 8 rfl; have p9 := Xp.c 9 rfl; have p10 := Xp.c 10 rfl; have p11 := Xp.c 11 rfl; have q0 := Xq.c 0 rfl; have q1 := Xq.c 1 rfl; have q2 := Xq.c 2 rfl; have q3 := Xq.c 3 rfl; have q4 := Xq.c 4 rfl; have q5 := Xq.c 5 rfl; have q6 := Xq.c 6 rfl; have q7 := Xq.c 7 rfl; have q8 := Xq.c 8 rfl; have q9 := Xq.c 9 rfl; have q10 := Xq.c 10 rfl; have q11 := Xq.c 11 rfl; have m0 := Xm.c 0 rfl; have m1 := Xm.c 1 rfl; have m2 := Xm.c 2 rfl; have m3 := Xm.c 3 rfl; have m4 := Xm.c 4 rfl; have m5 := Xm.c 5 rfl; have m6 := Xm.c 6 rfl; have m7 := Xm.c 7 rfl; have m8 := Xm.c 8 rfl; have m9 := Xm.c 9 rfl; have m10 := Xm.c 10 rfl; have m11 := Xm.c 11 rfl
              have kk0 := Xk.c 0 rfl; have kk1 := Xk.c 1 rfl; have kk2 := Xk.c 2 rfl; have kk3 := Xk.c 3 rfl
              go_wp2_with fail
              refine (M3 _).mono ?_
              rintro e u4 ⟨rfl, hB⟩
              replace Xp := (Xp.step hB).alloc (.cells #[.int .u64 (ww3 zk), .int .u64 (ww2 zk), .int .u64 (ww1 zk), .int .u64 (ww0 zk)] 26)
              replace Xq := (Xq.step hB).alloc (.cells #[.int .u64 (ww3 zk), .int .u64 (ww2 zk), .int .u64 (ww1 zk), .int .u64 (ww0 zk)] 26)
              replace Xm := (Xm.step hB).alloc (.cells #[.int .u64 (ww3 zk), .int .u64 (ww2 zk), .int .u64 (ww1 zk), .int .u64 (ww0 zk)] 26)
              replace Xk := (Xk.step hB).alloc (.cells #[.int .u64 (ww3 zk), .int .u64 (ww2 zk), .int .u64 (ww1 zk), .int .u64 (ww0 zk)] 26)
              replace Xxk := (Xxk.step hB).alloc (.cells #[.int .u64 (ww3 zk), .int .u64 (ww2 zk), .int .u64 (ww1 zk), .int .u64 (ww0 zk)] 26)
              replace Xyk := (Xyk.step hB).alloc (.cells #[.int .u64 (ww3 zk), .int .u64 (ww2 zk), .int .u64 (ww1 zk), .int .u64 (ww0 zk)] 26)
              have Xzk := Blk.new u4 [.int .u64 (ww3 zk), .int .u64 (ww2 zk), .int .u64 (ww1 zk), .int .u64 (ww0 zk)] 26 rfl
              replace HB := (HB.trans (hB.mono HB.size)).alloc (HB.trans (hB.mono HB.size)).size (.cells #[.int .u64 (ww3 zk), .int .u64 (ww2 zk), .int .u64 (ww1 zk), .int .u64 (ww0 zk)] 26)
              clear hB p0 p1 p2 p3 p4 p5 p6 p7 p8 p9 p10 p11 q0 q1 q2 q3 q4 q5 q6 q7 q8 q9 q10 q11 m0 m1 m2 m3 m4 m5 m6 m7 m8 m9 m10 m11 kk0 kk1 kk2 kk3
              have ka0 := Xxk.c 0 rfl; have kb0 := Xyk.c 0 rfl; have kc0 := Xzk.c 0 rfl; have ka1 := Xxk.c 1 rfl; have kb1 := Xyk.c 1 rfl; have kc1 := Xzk.c 1 rfl; have ka2 := Xxk.c 2 rfl; have kb2 := Xyk.c 2 rfl; have kc2 := Xzk.c 2 rfl; have ka3 := Xxk.c 3 rfl; have kb3 := Xyk.c 3 rfl; have kc3 := Xzk.c 3 rfl
              go_wp2_with fail
              refine (PM _).mono ?_
              rintro e u5 ⟨rfl, hB⟩
              replace Xp := (Xp.step hB).alloc (.cells #[.int .u64 (ww3 x), .int .u64 (ww2 x), .int .u64 (ww1 x), .int .u64 (ww0 x), .int .u64 (ww3 y), .int .u64 (ww2 y), .int .u64 (ww1 y), .int .u64 (ww0 y), .int .u64 (ww3 z), .int .u64 (ww2 z), .int .u64 (ww1 z), .int .u64 (ww0 z)] 28)
              replace HB := (HB.trans (hB.mono HB.size)).alloc (HB.trans (hB.mono HB.size)).size (.cells #[.int .u64 (ww3 x), .int .u64 (ww2 x), .int .u64 (ww1 x), .int .u64 (ww0 x), .int .u64 (ww3 y), .int .u64 (ww2 y), .int .u64 (ww1 y), .int .u64 (ww0 y), .int .u64 (ww3 z), .int .u64 (ww2 z), .int .u64 (ww1 z), .int .u64 (ww0 z)] 28)
              clear hB ka0 kb0 kc0 ka1 kb1 kc1 ka2 kb2 kc2 ka3 kb3 kc3
              have p0 := Xp.c 0 rfl; have p1 := Xp.c 1 rfl; have p2 := Xp.c 2 rfl; have p3 := Xp.c 3 rfl; have p4 := Xp.c 4 rfl; have p5 := Xp.c 5 rfl; have p6 := Xp.c 6 rfl; have p7 := Xp.c 7 rfl; have p8 := Xp.c 8 rfl; have p9 := Xp.c 9 rfl; have p10 := Xp.c 10 rfl; have p11 := Xp.c 11 rfl
              clear Xp Xq Xm Xk Xxk Xyk Xzk
              go_wp2
              go_ret
              exact ⟨rfl, HB⟩
            · clear tr
              have p0 := Xp.c 0 rfl; have p1 := Xp.c 1 rfl; have p2 := Xp.c 2 rfl; have p3 := Xp.c 3 rfl; have p4 := Xp.c 4 rfl; have p5 := Xp.c 5 rfl; have p6 := Xp.c 6 rfl; have p7 := Xp.c 7 rfl; have p8 := Xp.c 8 rfl; have p9 := Xp.c 9 rfl; have p10 := Xp.c 10 rfl; have p11 := Xp.c 11 rfl; have q0 := Xq.c 0 rfl; have q1 := Xq.c 1 rfl; have q2 := Xq.c 2 rfl; have q3 := Xq.c 3 rfl; have q4 := Xq.c 4 rfl; have q5 := Xq.c 5 rfl; have q6 := Xq.c 6 rfl; have q7 := Xq.c 7 rfl; have q8 := Xq.c 8 rfl; have q9 := Xq.c 9 rfl; have q10 := Xq.c 10 rfl; have q11 := Xq.c 11 rfl; have m0 := Xm.c 0 rfl; have m1 := Xm.c 1 rfl; have m2 := Xm.c 2 rfl; have m3 := Xm.c 3 rfl; have m4 := Xm.c 4 rfl; have m5 := Xm.c 5 rfl; have m6 := Xm.c 6 rfl; have m7 := Xm.c 7 rfl; have m8 := Xm.c 8 rfl; have m9 := Xm.c 9 rfl; have m10 := Xm.c 10 rfl; have m11 := Xm.c 11 rfl
              go_wp2_with fail
              refine (KO _).mono ?_
              rintro e u1 ⟨rfl, hB⟩
              replace Xp := (Xp.step hB).alloc (.cells #[.int .u64 (ww3 k), .int .u64 (ww2 k), .int .u64 (ww1 k), .int .u64 (ww0 k)] 26); replace Xq := (Xq.step hB).alloc (.cells #[.int .u64 (ww3 k), .int .u64 (ww2 k), .int .u64 (ww1 k), .int .u64 (ww0 k)] 26); replace Xm := (Xm.step hB).alloc (.cells #[.int .u64 (ww3 k), .int .u64 (ww2 k), .int .u64 (ww1 k), .int .u64 (ww0 k)] 26)
              have Xk := Blk.new u1 [.int .u64 (ww3 k), .int .u64 (ww2 k), .int .u64 (ww1 k), .int .u64 (ww0 k)] 26 rfl
              replace HB := (HB.trans (hB.mono HB.size)).alloc (HB.trans (hB.mono HB.size)).size (.cells #[.int .u64 (ww3 k), .int .u64 (ww2 k), .int .u64 (ww1 k), .int .u64 (ww0 k)] 26)
              clear hB p0 p1 p2 p3 p4 p5 p6 p7 p8 p9 p10 p11 q0 q1 q2 q3 q4 q5 q6 q7 q8 q9 q10 q11 m0 m1 m2 m3 m4 m5 m6 m7 m8 m9 m10 m11
              have p0 := Xp.c 0 rfl; have p1 := Xp.c 1 rfl; have p2 := Xp.c 2 rfl; have p3 := Xp.c 3 rfl; have p4 := Xp.c 4 rfl; have p5 := Xp.c 5 rfl; have p6 := Xp.c 6 rfl; have p7 := Xp.c 7 rfl; have p8 := Xp.c 8 rfl; have p9 := Xp.c 9 rfl; have p10 := Xp.c 10 rfl; have p11 := Xp.c 11 rfl; have q0 := Xq.c 0 rfl; have q1 := Xq.c 1 rfl; have q2 := Xq.c 2 rfl; have q3 := Xq.c 3 rfl; have q4 := Xq.c 4 rfl; have q5 := Xq.c 5 rfl; have q6 := Xq.c 6 rfl; have q7 := Xq.c 7 rfl; have q8 := Xq.c 8 rfl; have q9 := Xq.c 9 rfl; have q10 := Xq.c 10 rfl; have q11 := Xq.c 11 rfl; have m0 := Xm.c 0 rfl; have m1 := Xm.c 1 rfl; have m2 := Xm.c 2 rfl; have m3 := Xm.c 3 rfl; have m4 := Xm.c 4 rfl; have m5 := Xm.c 5 rfl; have m6 := Xm.c 6 rfl; have m7 := Xm.c 7 rfl; have m8 := Xm.c 8 rfl; have m9 := Xm.c 9 rfl; have m10 := Xm.c 10 rfl; have m11 := Xm.c 11 rfl
              have kk0 := Xk.c 0 rfl; have kk1 := Xk.c 1 rfl; have kk2 := Xk.c 2 rfl; have kk3 := Xk.c 3 rfl
              go_wp2_with fail
              refine (M1 _).mono ?_
              rintro e u2 ⟨rfl, hB⟩
              replace Xp := (Xp.step hB).alloc (.cells #[.int .u64 (ww3 xk), .int .u64 (ww2 xk), .int .u64 (ww1 xk), .int .u64 (ww0 xk)] 26)
              replace Xq := (Xq.step hB).alloc (.cells #[.int .u64 (ww3 xk), .int .u64 (ww2 xk), .int .u64 (ww1 xk), .int .u64 (ww0 xk)] 26)
              replace Xm := (Xm.step hB).alloc (.cells #[.int .u64 (ww3 xk), .int .u64 (ww2 xk), .int .u64 (ww1 xk), .int .u64 (ww0 xk)] 26)
              replace Xk := (Xk.step hB).alloc (.cells #[.int .u64 (ww3 xk), .int .u64 (ww2 xk), .int .u64 (ww1 xk), .int .u64 (ww0 xk)] 26)
              have Xxk := Blk.new u2 [.int .u64 (ww3 xk), .int .u64 (ww2 xk), .int .u64 (ww1 xk), .int .u64 (ww0 xk)] 26 rfl
              replace HB := (HB.trans (hB.mono HB.size)).alloc (HB.trans (hB.mono HB.size)).size (.cells #[.int .u64 (ww3 xk), .int .u64 (ww2 xk), .int .u64 (ww1 xk), .int .u64 (ww0 xk)] 26)
              clear hB p0 p1 p2 p3 p4 p5 p6 p7 p8 p9 p10 p11 q0 q1 q2 q3 q4 q5 q6 q7 q8 q9 q10 q11 m0 m1 m2 m3 m4 m5 m6 m7 m8 m9 m10 m11 kk0 kk1 kk2 kk3
              have p0 := Xp.c 0 rfl; have p1 := Xp.c 1 rfl; have p2 := Xp.c 2 rfl; have p3 := Xp.c 3 rfl; have p4 := Xp.c 4 rfl; have p5 := Xp.c 5 rfl; have p6 := Xp.c 6 rfl; have p7 := Xp.c 7 rfl; have p8 := Xp.c 8 rfl; have p9 := Xp.c 9 rfl; have p10 := Xp.c 10 rfl; have p11 := Xp.c 11 rfl; have q0 := Xq.c 0 rfl; have q1 := Xq.c 1 rfl; have q2 := Xq.c 2 rfl; have q3 := Xq.c 3 rfl; have q4 := Xq.c 4 rfl; have q5 := Xq.c 5 rfl; have q6 := Xq.c 6 rfl; have q7 := Xq.c 7 rfl; have q8 := Xq.c 8 rfl; have q9 := Xq.c 9 rfl; have q10 := Xq.c 10 rfl; have q11 := Xq.c 11 rfl; have m0 := Xm.c 0 rfl; have m1 := Xm.c 1 rfl; have m2 := Xm.c 2 rfl; have m3 := Xm.c 3 rfl; have m4 := Xm.c 4 rfl; have m5 := Xm.c 5 rfl; have m6 := Xm.c 6 rfl; have m7 := Xm.c 7 rfl; have m8 := Xm.c 8 rfl; have m9 := Xm.c 9 rfl; have m10 := Xm.c 10 rfl; have m11 := Xm.c 11 rfl
              have kk0 := Xk.c 0 rfl; have kk1 := Xk.c 1 rfl; have kk2 := Xk.c 2 rfl; have kk3 := Xk.c 3 rfl
              go_wp2_with fail
              refine (M2 _).mono ?_
              rintro e u3 ⟨rfl, hB⟩
              replace Xp := (Xp.step hB).alloc (.cells #[.int .u64 (ww3 yk), .int .u64 (ww2 yk), .int .u64 (ww1 yk), .int .u64 (ww0 yk)] 26)
              replace Xq := (Xq.step hB).alloc (.cells #[.int .u64 (ww3 yk), .int .u64 (ww2 yk), .int .u64 (ww1 yk), .int .u64 (ww0 yk)] 26)
              replace Xm := (Xm.step hB).alloc (.cells #[.int .u64 (ww3 yk), .int .u64 (ww2 yk), .int .u64 (ww1 yk), .int .u64 (ww0 yk)] 26)
              replace Xk := (Xk.step hB).alloc (.cells #[.int .u64 (ww3 yk), .int .u64 (ww2 yk), .int .u64 (ww1 yk), .int .u64 (ww0 yk)] 26)
              replace Xxk := (Xxk.step hB).alloc (.cells #[.int .u64 (ww3 yk), .int .u64 (ww2 yk), .int .u64 (ww1 yk), .int .u64 (ww0 yk)] 26)
              have Xyk := Blk.new u3 [.int .u64 (ww3 yk), .int .u64 (ww2 yk), .int .u64 (ww1 yk), .int .u64 (ww0 yk)] 26 rfl
              replace HB := (HB.trans (hB.mono HB.size)).alloc (HB.trans (hB.mono HB.size)).size (.cells #[.int .u64 (ww3 yk), .int .u64 (ww2 yk), .int .u64 (ww1 yk), .int .u64 (ww0 yk)] 26)
              clear hB p0 p1 p2 p3 p4 p5 p6 p7 p8 p9 p10 p11 q0 q1 q2 q3 q4 q5 q6 q7 q8 q9 q10 q11 m0 m1 m2 m3 m4 m5 m6 m7 m8 m9 m10 m11 kk0 kk1 kk2 kk3
              have p0 := Xp.c 0 rfl; have p1 := Xp.c 1 rfl; have p2 := Xp.c 2 rfl; have p3 := Xp.c 3 rfl; have p4 := Xp.c 4 rfl; have p5 := Xp.c 5 rfl; have p6 := Xp.c 6 rfl; have p7 := Xp.c 7 rfl; have p8 := Xp.c 8 rfl; have p9 := Xp.c 9 rfl; have p10 := Xp.c 10 rfl; have p11 := Xp.c 11 rfl; have q0 := Xq.c 0 rfl; have q1 := Xq.c 1 rfl; have q2 := Xq.c 2 rfl; have q3 := Xq.c 3 rfl; have q4 := Xq.c 4 rfl; have q5 := Xq.c 5 rfl; have q6 := Xq.c 6 rfl; have q7 := Xq.c 7 rfl; have q8 := Xq.c 8 rfl; have q9 := Xq.c 9 rfl; have q10 := Xq.c 10 rfl; have q11 := Xq.c 11 rfl; have m0 := Xm.c 0 rfl; have m1 := Xm.c 1 rfl; have m2 := Xm.c 2 rfl; have m3 := Xm.c 3 rfl; have m4 := Xm.c 4 rfl; have m5 := Xm.c 5 rfl; have m6 := Xm.c 6 rfl; have m7 := Xm.c 7 rfl; have m8 := Xm.c 8 rfl; have m9 := Xm.c 9 rfl; have m10 := Xm.c 10 rfl; have m11 := Xm.c 11 rfl
              have kk0 := Xk.c 0 rfl; have kk1 := Xk.c 1 rfl; have kk2 := Xk.c 2 rfl; have kk3 := Xk.c 3 rfl
              go_wp2_with fail
              refine (M3 _).mono ?_
              rintro e u4 ⟨rfl, hB⟩
              replace Xp := (Xp.step hB).alloc (.cells #[.int .u64 (ww3 zk), .int .u64 (ww2 zk), .int .u64 (ww1 zk), .int .u64 (ww0 zk)] 26)
              replace Xq := (Xq.step hB).alloc (.cells #[.int .u64 (ww3 zk), .int .u64 (ww2 zk), .int .u64 (ww1 zk), .int .u64 (ww0 zk)] 26)
              replace Xm := (Xm.step hB).alloc (.cells #[.int .u64 (ww3 zk), .int .u64 (ww2 zk), .int .u64 (ww1 zk), .int .u64 (ww0 zk)] 26)
              replace Xk := (Xk.step hB).alloc (.cells #[.int .u64 (ww3 zk), .int .u64 (ww2 zk), .int .u64 (ww1 zk), .int .u64 (ww0 zk)] 26)
              replace Xxk := (Xxk.step hB).alloc (.cells #[.int .u64 (ww3 zk), .int .u64 (ww2 zk), .int .u64 (ww1 zk), .int .u64 (ww0 zk)] 26)
              replace Xyk := (Xyk.step hB).alloc (.cells #[.int .u64 (ww3 zk), .int .u64 (ww2 zk), .int .u64 (ww1 zk), .int .u64 (ww0 zk)] 26)
              have Xzk := Blk.new u4 [.int .u64 (ww3 zk), .int .u64 (ww2 zk), .int .u64 (ww1 zk), .int .u64 (ww0 zk)] 26 rfl
              replace HB := (HB.trans (hB.mono HB.size)).alloc (HB.trans (hB.mono HB.size)).size (.cells #[.int .u64 (ww3 zk), .int .u64 (ww2 zk), .int .u64 (ww1 zk), .int .u64 (ww0 zk)] 26)
              clear hB p0 p1 p2 p3 p4 p5 p6 p7 p8 p9 p10 p11 q0 q1 q2 q3 q4 q5 q6 q7 q8 q9 q10 q11 m0 m1 m2 m3 m4 m5 m6 m7 m8 m9 m10 m11 kk0 kk1 kk2 kk3
              have ka0 := Xxk.c 0 rfl; have kb0 := Xyk.c 0 rfl; have kc0 := Xzk.c 0 rfl; have ka1 := Xxk.c 1 rfl; have kb1 := Xyk.c 1 rfl; have kc1 := Xzk.c 1 rfl; have ka2 := Xxk.c 2 rfl; have kb2 := Xyk.c 2 rfl; have kc2 := Xzk.c 2 rfl; have ka3 := Xxk.c 3 rfl; have kb3 := Xyk.c 3 rfl; have kc3 := Xzk.c 3 rfl
              go_wp2_with fail
              refine (PM _).mono ?_
              rintro e u5 ⟨rfl, hB⟩
              replace Xp := (Xp.step hB).alloc (.cells #[.int .u64 (ww3 x), .int .u64 (ww2 x), .int .u64 (ww1 x), .int .u64 (ww0 x), .int .u64 (ww3 y), .int .u64 (ww2 y), .int .u64 (ww1 y), .int .u64 (ww0 y), .int .u64 (ww3 z), .int .u64 (ww2 z), .int .u64 (ww1 z), .int .u64 (ww0 z)] 28)
              replace HB := (HB.trans (hB.mono HB.size)).alloc (HB.trans (hB.mono HB.size)).size (.cells #[.int .u64 (ww3 x), .int .u64 (ww2 x), .int .u64 (ww1 x), .int .u64 (ww0 x), .int .u64 (ww3 y), .int .u64 (ww2 y), .int .u64 (ww1 y), .int .u64 (ww0 y), .int .u64 (ww3 z), .int .u64 (ww2 z), .int .u64 (ww1 z), .int .u64 (ww0 z)] 28)
              clear hB ka0 kb0 kc0 ka1 kb1 kc1 ka2 kb2 kc2 ka3 kb3 kc3
              have p0 := Xp.c 0 rfl; have p1 := Xp.c 1 rfl; have p2 := Xp.c 2 rfl; have p3 := Xp.c 3 rfl; have p4 := Xp.c 4 rfl; have p5 := Xp.c 5 rfl; have p6 := Xp.c 6 rfl; have p7 := Xp.c 7 rfl; have p8 := Xp.c 8 rfl; have p9 := Xp.c 9 rfl; have p10 := Xp.c 10 rfl; have p11 := Xp.c 11 rfl
              clear Xp Xq Xm Xk Xxk Xyk Xzk
              go_wp2
              go_ret
              exact ⟨rfl, HB⟩
          · have q1' : ((o == 0) != (o == 0)) = false := by simp
            clear tr
            have p0 := Xp.c 0 rfl; have p1 := Xp.c 1 rfl; have p2 := Xp.c 2 rfl; have p3 := Xp.c 3 rfl; have p4 := Xp.c 4 rfl; have p5 := Xp.c 5 rfl; have p6 := Xp.c 6 rfl; have p7 := Xp.c 7 rfl; have p8 := Xp.c 8 rfl; have p9 := Xp.c 9 rfl; have p10 := Xp.c 10 rfl; have p11 := Xp.c 11 rfl; have q0 := Xq.c 0 rfl; have q1 := Xq.c 1 rfl; have q2 := Xq.c 2 rfl; have q3 := Xq.c 3 rfl; have q4 := Xq.c 4 rfl; have q5 := Xq.c 5 rfl; have q6 := Xq.c 6 rfl; have q7 := Xq.c 7 rfl; have q8 := Xq.c 8 rfl; have q9 := Xq.c 9 rfl; have q10 := Xq.c 10 rfl; have q11 := Xq.c 11 rfl; have m0 := Xm.c 0 rfl; have m1 := Xm.c 1 rfl; have m2 := Xm.c 2 rfl; have m3 := Xm.c 3 rfl; have m4 := Xm.c 4 rfl; have m5 := Xm.c 5 rfl; have m6 := Xm.c 6 rfl; have m7 := Xm.c 7 rfl; have m8 := Xm.c 8 rfl; have m9 := Xm.c 9 rfl; have m10 := Xm.c 10 rfl; have m11 := Xm.c 11 rfl
            go_wp2_with fail
            refine (KO _).mono ?_
            rintro e u1 ⟨rfl, hB⟩
            replace Xp := (Xp.step hB).alloc (.cells #[.int .u64 (ww3 k), .int .u64 (ww2 k), .int .u64 (ww1 k), .int .u64 (ww0 k)] 26); replace Xq := (Xq.step hB).alloc (.cells #[.int .u64 (ww3 k), .int .u64 (ww2 k), .int .u64 (ww1 k), .int .u64 (ww0 k)] 26); replace Xm := (Xm.step hB).alloc (.cells #[.int .u64 (ww3 k), .int .u64 (ww2 k), .int .u64 (ww1 k), .int .u64 (ww0 k)] 26)
            have Xk := Blk.new u1 [.int .u64 (ww3 k), .int .u64 (ww2 k), .int .u64 (ww1 k), .int .u64 (ww0 k)] 26 rfl
            replace HB := (HB.trans (hB.mono HB.size)).alloc (HB.trans (hB.mono HB.size)).size (.cells #[.int .u64 (ww3 k), .int .u64 (ww2 k), .int .u64 (ww1 k), .int .u64 (ww0 k)] 26)
            clear hB p0 p1 p2 p3 p4 p5 p6 p7 p8 p9 p10 p11 q0 q1 q2 q3 q4 q5 q6 q7 q8 q9 q10 q11 m0 m1 m2 m3 m4 m5 m6 m7 m8 m9 m10 m11
            have p0 := Xp.c 0 rfl; have p1 := Xp.c 1 rfl; have p2 := Xp.c 2 rfl; have p3 := Xp.c 3 rfl; have p4 := Xp.c 4 rfl; have p5 := Xp.c 5 rfl; have p6 := Xp.c 6 rfl; have p7 := Xp.c 7 rfl; have p8 := Xp.c 8 rfl; have p9 := Xp.c 9 rfl; have p10 := Xp.c 10 rfl; have p11 := Xp.c 11 rfl; have q0 := Xq.c 0 rfl; have q1 := Xq.c 1 rfl; have q2 := Xq.c 2 rfl; have q3 := Xq.c 3 rfl; have q4 := Xq.c 4 rfl; have q5 := Xq.c 5 rfl; have q6 := Xq.c 6 rfl; have q7 := Xq.c 7 rfl; have q8 := Xq.c 8 rfl; have q9 := Xq.c 9 rfl; have q10 := Xq.c 10 rfl; have q11 := Xq.c 11 rfl; have m0 := Xm.c 0 rfl; have m1 := Xm.c 1 rfl; have m2 := Xm.c 2 rfl; have m3 := Xm.c 3 rfl; have m4 := Xm.c 4 rfl; have m5 := Xm.c 5 rfl; have m6 := Xm.c 6 rfl; have m7 := Xm.c 7 rfl; have m8 := Xm.c 8 rfl; have m9 := Xm.c 9 rfl; have m10 := Xm.c 10 rfl; have m11 := Xm.c 11 rfl
            have kk0 := Xk.c 0 rfl; have kk1 := Xk.c 1 rfl; have kk2 := Xk.c 2 rfl; have kk3 := Xk.c 3 rfl
            go_wp2_with fail
            refine (M1 _).mono ?_
            rintro e u2 ⟨rfl, hB⟩
            replace Xp := (Xp.step hB).alloc (.cells #[.int .u64 (ww3 xk), .int .u64 (ww2 xk), .int .u64 (ww1 xk), .int .u64 (ww0 xk)] 26)
            replace Xq := (Xq.step hB).alloc (.cells #[.int .u64 (ww3 xk), .int .u64 (ww2 xk), .int .u64 (ww1 xk), .int .u64 (ww0 xk)] 26)
            replace Xm := (Xm.step hB).alloc (.cells #[.int .u64 (ww3 xk), .int .u64 (ww2 xk), .int .u64 (ww1 xk), .int .u64 (ww0 xk)] 26)
            replace Xk := (Xk.step hB).alloc (.cells #[.int .u64 (ww3 xk), .int .u64 (ww2 xk), .int .u64 (ww1 xk), .int .u64 (ww0 xk)] 26)
            have Xxk := Blk.new u2 [.int .u64 (ww3 xk), .int .u64 (ww2 xk), .int .u64 (ww1 xk), .int .u64 (ww0 xk)] 26 rfl
            replace HB := (HB.trans (hB.mono HB.size)).alloc (HB.trans (hB.mono HB.size)).size (.cells #[.int .u64 (ww3 xk), .int .u64 (ww2 xk), .int .u64 (ww1 xk), .int .u64 (ww0 xk)] 26)
            clear hB p0 p1 p2 p3 p4 p5 p6 p7 p8 p9 p10 p11 q0 q1 q2 q3 q4 q5 q6 q7 q8 q9 q10 q11 m0 m1 m2 m3 m4 m5 m6 m7 m8 m9 m10 m11 kk0 kk1 kk2 kk3
            have p0 := Xp.c 0 rfl; have p1 := Xp.c 1 rfl; have p2 := Xp.c 2 rfl; have p3 := Xp.c 3 rfl; have p4 := Xp.c 4 rfl; have p5 := Xp.c 5 rfl; have p6 := Xp.c 6 rfl; have p7 := Xp.c 7 rfl; have p8 := Xp.c 8 rfl; have p9 := Xp.c 9 rfl; have p10 := Xp.c 10 rfl; have p11 := Xp.c 11 rfl; have q0 := Xq.c 0 rfl; have q1 := Xq.c 1 rfl; have q2 := Xq.c 2 rfl; have q3 := Xq.c 3 rfl; have q4 := Xq.c 4 rfl; have q5 := Xq.c 5 rfl; have q6 := Xq.c 6 rfl; have q7 := Xq.c 7 rfl; have q8 := Xq.c 8 rfl; have q9 := Xq.c 9 rfl; have q10 := Xq.c 10 rfl; have q11 := Xq.c 11 rfl; have m0 := Xm.c 0 rfl; have m1 := Xm.c 1 rfl; have m2 := Xm.c 2 rfl; have m3 := Xm.c 3 rfl; have m4 := Xm.c 4 rfl; have m5 := Xm.c 5 rfl; have m6 := Xm.c 6 rfl; have m7 := Xm.c 7 rfl; have m8 := Xm.c 8 rfl; have m9 := Xm.c 9 rfl; have m10 := Xm.c 10 rfl; have m11 := Xm.c 11 rfl
            have kk0 := Xk.c 0 rfl; have kk1 := Xk.c 1 rfl; have kk2 := Xk.c 2 rfl; have kk3 := Xk.c 3 rfl
            go_wp2_with fail
            refine (M2 _).mono ?_
            rintro e u3 ⟨rfl, hB⟩
            replace Xp := (Xp.step hB).alloc (.cells #[.int .u64 (ww3 yk), .int .u64 (ww2 yk), .int .u64 (ww1 yk), .int .u64 (ww0 yk)] 26)
            replace Xq := (Xq.step hB).alloc (.cells #[.int .u64 (ww3 yk), .int .u64 (ww2 yk), .int .u64 (ww1 yk), .int .u64 (ww0 yk)] 26)
            replace Xm := (Xm.step hB).alloc (.cells #[.int .u64 (ww3 yk), .int .u64 (ww2 yk), .int .u64 (ww1 yk), .int .u64 (ww0 yk)] 26)
            replace Xk := (Xk.step hB).alloc (.cells #[.int .u64 (ww3 yk), .int .u64 (ww2 yk), .int .u64 (ww1 yk), .int .u64 (ww0 yk)] 26)
            replace Xxk := (Xxk.step hB).alloc (.cells #[.int .u64 (ww3 yk), .int .u64 (ww2 yk), .int .u64 (ww1 yk), .int .u64 (ww0 yk)] 26)
            have Xyk := Blk.new u3 [.int .u64 (ww3 yk), .int .u64 (ww2 yk), .int .u64 (ww1 yk), .int .u64 (ww0 yk)] 26 rfl
            replace HB := (HB.trans (hB.mono HB.size)).alloc (HB.trans (hB.mono HB.size)).size (.cells #[.int .u64 (ww3 yk), .int .u64 (ww2 yk), .int .u64 (ww1 yk), .int .u64 (ww0 yk)] 26)
            clear hB p0 p1 p2 p3 p4 p5 p6 p7 p8 p9 p10 p11 q0 q1 q2 q3 q4 q5 q6 q7 q8 q9 q10 q11 m0 m1 m2 m3 m4 m5 m6 m7 m8 m9 m10 m11 kk0 kk1 kk2 kk3
            have p0 := Xp.c 0 rfl; have p1 := Xp.c 1 rfl; have p2 := Xp.c 2 rfl; have p3 := Xp.c 3 rfl; have p4 := Xp.c 4 rfl; have p5 := Xp.c 5 rfl; have p6 := Xp.c 6 rfl; have p7 := Xp.c 7 rfl; have p8 := Xp.c 8 rfl; have p9 := Xp.c 9 rfl; have p10 := Xp.c 10 rfl; have p11 := Xp.c 11 rfl; have q0 := Xq.c 0 rfl; have q1 := Xq.c 1 rfl; have q2 := Xq.c 2 rfl; have q3 := Xq.c 3 rfl; have q4 := Xq.c 4 rfl; have q5 := Xq.c 5 rfl; have q6 := Xq.c 6 rfl; have q7 := Xq.c 7 rfl; have q8 := Xq.c 8 rfl; have q9 := Xq.c 9 rfl; have q10 := Xq.c 10 rfl; have q11 := Xq.c 11 rfl; have m0 := Xm.c 0 rfl; have m1 := Xm.c 1 rfl; have m2 := Xm.c 2 rfl; have m3 := Xm.c 3 rfl; have m4 := Xm.c 4 rfl; have m5 := Xm.c 5 rfl; have m6 := Xm.c 6 rfl; have m7 := Xm.c 7 rfl; have m8 := Xm.c 8 rfl; have m9 := Xm.c 9 rfl; have m10 := Xm.c 10 rfl; have m11 := Xm.c 11 rfl
            have kk0 := Xk.c 0 rfl; have kk1 := Xk.c 1 rfl; have kk2 := Xk.c 2 rfl; have kk3 := Xk.c 3 rfl
            go_wp2_with fail
            refine (M3 _).mono ?_
            rintro e u4 ⟨rfl, hB⟩
            replace Xp := (Xp.step hB).alloc (.cells #[.int .u64 (ww3 zk), .int .u64 (ww2 zk), .int .u64 (ww1 zk), .int .u64 (ww0 zk)] 26)
            replace Xq := (Xq.step hB).alloc (.cells #[.int .u64 (ww3 zk), .int .u64 (ww2 zk), .int .u64 (ww1 zk), .int .u64 (ww0 zk)] 26)
            replace Xm := (Xm.step hB).alloc (.cells #[.int .u64 (ww3 zk), .int .u64 (ww2 zk), .int .u64 (ww1 zk), .int .u64 (ww0 zk)] 26)
            replace Xk := (Xk.step hB).alloc (.cells #[.int .u64 (ww3 zk), .int .u64 (ww2 zk), .int .u64 (ww1 zk), .int .u64 (ww0 zk)] 26)
            replace Xxk := (Xxk.step hB).alloc (.cells #[.int .u64 (ww3 zk), .int .u64 (ww2 zk), .int .u64 (ww1 zk), .int .u64 (ww0 zk)] 26)
            replace Xyk := (Xyk.step hB).alloc (.cells #[.int .u64 (ww3 zk), .int .u64 (ww2 zk), .int .u64 (ww1 zk), .int .u64 (ww0 zk)] 26)
            have Xzk := Blk.new u4 [.int .u64 (ww3 zk), .int .u64 (ww2 zk), .int .u64 (ww1 zk), .int .u64 (ww0 zk)] 26 rfl
            replace HB := (HB.trans (hB.mono HB.size)).alloc (HB.trans (hB.mono HB.size)).size (.cells #[.int .u64 (ww3 zk), .int .u64 (ww2 zk), .int .u64 (ww1 zk), .int .u64 (ww0 zk)] 26)
            clear hB p0 p1 p2 p3 p4 p5 p6 p7 p8 p9 p10 p11 q0 q1 q2 q3 q4 q5 q6 q7 q8 q9 q10 q11 m0 m1 m2 m3 m4 m5 m6 m7 m8 m9 m10 m11 kk0 kk1 kk2 kk3
            have ka0 := Xxk.c 0 rfl; have kb0 := Xyk.c 0 rfl; have kc0 := Xzk.c 0 rfl; have ka1 := Xxk.c 1 rfl; have kb1 := Xyk.c 1 rfl; have kc1 := Xzk.c 1 rfl; have ka2 := Xxk.c 2 rfl; have kb2 := Xyk.c 2 rfl; have kc2 := Xzk.c 2 rfl; have ka3 := Xxk.c 3 rfl; have kb3 := Xyk.c 3 rfl; have kc3 := Xzk.c 3 rfl
            go_wp2_with fail
            refine (PM _).mono ?_
            rintro e u5 ⟨rfl, hB⟩
            replace Xp := (Xp.step hB).alloc (.cells #[.int .u64 (ww3 x), .int .u64 (ww2 x), .int .u64 (ww1 x), .int .u64 (ww0 x), .int .u64 (ww3 y), .int .u64 (ww2 y), .int .u64 (ww1 y), .int .u64 (ww0 y), .int .u64 (ww3 z), .int .u64 (ww2 z), .int .u64 (ww1 z), .int .u64 (ww0 z)] 28)
            replace HB := (HB.trans (hB.mono HB.size)).alloc (HB.trans (hB.mono HB.size)).size (.cells #[.int .u64 (ww3 x), .int .u64 (ww2 x), .int .u64 (ww1 x), .int .u64 (ww0 x), .int .u64 (ww3 y), .int .u64 (ww2 y), .int .u64 (ww1 y), .int .u64 (ww0 y), .int .u64 (ww3 z), .int .u64 (ww2 z), .int .u64 (ww1 z), .int .u64 (ww0 z)] 28)
            clear hB ka0 kb0 kc0 ka1 kb1 kc1 ka2 kb2 kc2 ka3 kb3 kc3
            have p0 := Xp.c 0 rfl; have p1 := Xp.c 1 rfl; have p2 := Xp.c 2 rfl; have p3 := Xp.c 3 rfl; have p4 := Xp.c 4 rfl; have p5 := Xp.c 5 rfl; have p6 := Xp.c 6 rfl; have p7 := Xp.c 7 rfl; have p8 := Xp.c 8 rfl; have p9 := Xp.c 9 rfl; have p10 := Xp.c 10 rfl; have p11 := Xp.c 11 rfl
            clear Xp Xq Xm Xk Xxk Xyk Xzk
            go_wp2
            go_ret
            exact ⟨rfl, HB⟩
        · rw [Bool.eq_false_iff.2 h3]
          have HBx := HB
          clear Xp Xq Xm HB
          go_wp2
          go_ret
          exact ⟨rfl, HBx⟩
      · rw [Bool.eq_false_iff.2 h2]
        have HBx := HB
        clear Xp Xq Xm HB
        go_wp2
        go_ret
        exact ⟨rfl, HBx⟩
    · rw [Bool.eq_false_iff.2 h1]
      have HBx := HB
      clear Xp Xq Xm HB
      go_wp2
      go_ret
      exact ⟨rfl, HBx⟩
end Go.Proofs.Ytgmenloipiedeaa
