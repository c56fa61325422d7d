/- Fractions: the model's word on whether one is right, and the law over both. -/
import Derived.Test.YtddniklhpkagmaaRatO
import Derived.Test.YtddniklhpkagmaaBase1
import Derived.Test.YtddniklhpkagmaaDivM
namespace Go.Proofs.Ytddniklhpkagmaa
open Go.RowKit
set_option maxRecDepth 100000 in
set_option maxHeartbeats 2000000 in
theorem specRatioOk_any (a3 a2 a1 a0 b3 b2 b1 b0 : Int) (h3 : Word a3) (h2 : Word a2) (h1 : Word a1) (h0 : Word a0) (k3 : Word b3) (k2 : Word b2) (k1 : Word b1) (k0 : Word b0) (w : World) : Calls Try.prog 29 #[Rt a3 a2 a1 a0 b3 b2 b1 b0] w (BoolP (rightB (sw a3 a2 a1 a0) (sw b3 b2 b1 b0)) w) := by
  have HB := (Below.refl _ w).alloc (Nat.le_refl _) (.cells #[.int .u64 a3, .int .u64 a2, .int .u64 a1, .int .u64 a0, .int .u64 b3, .int .u64 b2, .int .u64 b1, .int .u64 b0] 41)
  go_enter Try.func29, Try.ntmps29
  go_wp2_with fail
  refine (l2Of_any a3 a2 a1 a0 b3 b2 b1 b0 h3 h2 h1 h0 k3 k2 k1 k0 _).mono ?_
  rintro e w1 ⟨s, ao, n, cap, ds, t, bo, m, c, es, rfl, N1, N2, hB⟩
  replace HB := HB.trans (hB.mono HB.size)
  clear hB h3 h2 h1 h0 k3 k2 k1 k0
  generalize sw a3 a2 a1 a0 = x at *
  generalize sw b3 b2 b1 b0 = y at *
  go_upto_region 2 with fail
  have X0 : Blk (w1.alloc (.cells #[.bool s, .slice ao n cap, .bool t, .slice bo m c] 88)) w1.heap.size [.bool s, .slice ao n cap, .bool t, .slice bo m c] := Blk.new w1 [.bool s, .slice ao n cap, .bool t, .slice bo m c] 88 rfl
  replace N1 := N1.below ((Below.refl w1.heap.size w1).alloc (Nat.le_refl _) (.cells #[.bool s, .slice ao n cap, .bool t, .slice bo m c] 88))
  replace N2 := N2.below ((Below.refl w1.heap.size w1).alloc (Nat.le_refl _) (.cells #[.bool s, .slice ao n cap, .bool t, .slice bo m c] 88))
  replace HB := HB.alloc HB.size (.cells #[.bool s, .slice ao n cap, .bool t, .slice bo m c] 88)
  generalize w1.alloc (.cells #[.bool s, .slice ao n cap, .bool t, .slice bo m c] 88) = W at *
  generalize w1.heap.size = gx at *
  by_cases hs : 0 < y
  · obtain ⟨q, hq⟩ : ∃ q, cmpI (Int.gcd x y : Int) 1 = q := ⟨_, rfl⟩
    have HR : Hid (rightB x y = (q == 0)) := by
      show _ = _
      unfold rightB
      rw [← hq, Bool.eq_iff_iff]
      simp only [decide_eq_true_eq, beq_iff_eq]
      unfold cmpI
      split
      · constructor
        · rintro ⟨_, h⟩; omega
        · intro h; exact absurd h (by decide)
      · split
        · constructor
          · rintro ⟨_, h⟩; omega
          · intro h; exact absurd h (by decide)
        · exact ⟨fun _ => rfl, fun _ => ⟨hs, by omega⟩⟩
    have x0c := X0.c 0 rfl; have x1c := X0.c 1 rfl; have x2c := X0.c 2 rfl; have x3c := X0.c 3 rfl
    go_wp2_with fail
    refine (sign_any t bo m c es _ 8 _ N2).mono ?_
    rintro e w2 ⟨rfl, hB⟩
    rw [cmpI_gt hs]
    replace X0 := X0.step hB; replace HB := HB.trans (hB.mono HB.size); replace N1 := N1.below hB; replace N2 := N2.below hB
    clear hB x0c x1c x2c x3c
    have x0c := X0.c 0 rfl; have x1c := X0.c 1 rfl; have x2c := X0.c 2 rfl; have x3c := X0.c 3 rfl
    go_wp2_with fail
    refine (gcd_any s t ao bo n m cap c 8 ds es _ _ _ N1 N2 (by omega)).mono ?_
    rintro e w3 ⟨s3, ao3, n3, c3, ds3, rfl, N3, hB⟩
    replace HB := HB.trans (hB.mono HB.size)
    clear hB N1 N2 x0c x1c x2c x3c X0
    go_wp2_with fail
    refine (int_any 1 _ (by decide) (by decide)).mono ?_
    rintro e w4 ⟨s4, ao4, n4, c4, ds4, rfl, N4, hB⟩
    replace HB := HB.trans (hB.mono HB.size); replace N3 := N3.below hB
    clear hB
    go_wp2_with fail
    refine (cmp_any s3 s4 ao3 ao4 n3 n4 c3 c4 8 ds3 ds4 _ _ _ N3 (num_more N4 (by decide)) (by omega)).mono ?_
    rintro e w5 ⟨rfl, hB⟩
    rw [hq]
    replace HB := HB.trans (hB.mono HB.size)
    clear hB N3 N4 hq
    go_wp2
    go_ret
    exact ⟨by simp [HR.out], HB⟩
  · have HR : Hid (rightB x y = false) := by
      show _ = _
      unfold rightB
      simp [hs]
    have hcs : cmpI y 0 = -1 ∨ cmpI y 0 = 0 := by
      rcases Int.lt_trichotomy y 0 with h | h | h
      · exact Or.inl (cmpI_lt h)
      · exact Or.inr (cmpI_eq h)
      · exact absurd h hs
    have x0c := X0.c 0 rfl; have x1c := X0.c 1 rfl; have x2c := X0.c 2 rfl; have x3c := X0.c 3 rfl
    go_wp2_with fail
    refine (sign_any t bo m c es _ 8 _ N2).mono ?_
    rintro e w2 ⟨rfl, hB⟩
    replace HB := HB.trans (hB.mono HB.size)
    clear hB x0c x1c x2c x3c X0 N1 N2
    rcases hcs with hc | hc
    · rw [hc]
      go_wp2
      go_ret
      exact ⟨by rw [HR.out]; rfl, HB⟩
    · rw [hc]
      go_wp2
      go_ret
      exact ⟨by rw [HR.out]; rfl, HB⟩
def RatP' (a3 a2 a1 a0 b3 b2 b1 b0 : Int) (w : World) (e : Ending) (w' : World) : Prop := e = .returned (Rt a3 a2 a1 a0 b3 b2 b1 b0) ∧ Below w.heap.size w w'
set_option maxRecDepth 100000 in
set_option maxHeartbeats 1000000 in
theorem toRatio_any (a3 a2 a1 a0 b3 b2 b1 b0 : Int) (w : World) : Calls Try.prog 30 #[Rt a3 a2 a1 a0 b3 b2 b1 b0] w (RatP' a3 a2 a1 a0 b3 b2 b1 b0 w) := by
  have X0 := ((Blk.new w [.int .u64 a3, .int .u64 a2, .int .u64 a1, .int .u64 a0, .int .u64 b3, .int .u64 b2, .int .u64 b1, .int .u64 b0] 38 rfl).alloc (.cells #[.int .u64 0, .int .u64 0, .int .u64 0, .int .u64 0, .int .u64 0, .int .u64 0, .int .u64 0, .int .u64 0] 41)).alloc (.cells #[.int .u64 0, .int .u64 0, .int .u64 0, .int .u64 0, .int .u64 0, .int .u64 0, .int .u64 0, .int .u64 0] 41)
  have R0 := (Blk.new (w.alloc (.cells #[.int .u64 a3, .int .u64 a2, .int .u64 a1, .int .u64 a0, .int .u64 b3, .int .u64 b2, .int .u64 b1, .int .u64 b0] 38)) [.int .u64 0, .int .u64 0, .int .u64 0, .int .u64 0, .int .u64 0, .int .u64 0, .int .u64 0, .int .u64 0] 41 (g := w.heap.size + 1) (by simp)).alloc (.cells #[.int .u64 0, .int .u64 0, .int .u64 0, .int .u64 0, .int .u64 0, .int .u64 0, .int .u64 0, .int .u64 0] 41)
  have O0 := Blk.new ((w.alloc (.cells #[.int .u64 a3, .int .u64 a2, .int .u64 a1, .int .u64 a0, .int .u64 b3, .int .u64 b2, .int .u64 b1, .int .u64 b0] 38)).alloc (.cells #[.int .u64 0, .int .u64 0, .int .u64 0, .int .u64 0, .int .u64 0, .int .u64 0, .int .u64 0, .int .u64 0] 41)) [.int .u64 0, .int .u64 0, .int .u64 0, .int .u64 0, .int .u64 0, .int .u64 0, .int .u64 0, .int .u64 0] 41 (g := w.heap.size + 1 + 1) (by simp)
  have HB := (((Below.refl _ w).alloc (Nat.le_refl _) (.cells #[.int .u64 a3, .int .u64 a2, .int .u64 a1, .int .u64 a0, .int .u64 b3, .int .u64 b2, .int .u64 b1, .int .u64 b0] 38)).alloc (by simp) (.cells #[.int .u64 0, .int .u64 0, .int .u64 0, .int .u64 0, .int .u64 0, .int .u64 0, .int .u64 0, .int .u64 0] 41)).alloc (by simp; omega) (.cells #[.int .u64 0, .int .u64 0, .int .u64 0, .int .u64 0, .int .u64 0, .int .u64 0, .int .u64 0, .int .u64 0] 41)
  go_enter Try.func30, Try.ntmps30
  go_wp2_with fail
  refine (toWide_any a3 a2 a1 a0 _).mono ?_
  rintro e w1 ⟨rfl, hB⟩
  replace X0 := X0.step hB; replace R0 := R0.step hB; replace O0 := O0.step hB; replace HB := HB.trans (hB.mono HB.size)
  clear hB
  have x0 := X0.c 4 rfl; have o0 := O0.c 0 rfl; have p0 := O0.f 0 rfl; have x1 := X0.c 5 rfl; have o1 := O0.c 1 rfl; have p1 := O0.f 1 rfl; have x2 := X0.c 6 rfl; have o2 := O0.c 2 rfl; have p2 := O0.f 2 rfl; have x3 := X0.c 7 rfl; have o3 := O0.c 3 rfl; have p3 := O0.f 3 rfl
  have lx := X0.lt; have lo := O0.lt
  go_wp2_with fail
  clear x0 o0 p0 x1 o1 p1 x2 o2 p2 x3 o3 p3 lx lo
  replace X0 : Blk ((((w1.setCell ⟨w.heap.size + 1 + 1, 0, none⟩ (.int .u64 a3)).setCell ⟨w.heap.size + 1 + 1, 1, none⟩ (.int .u64 a2)).setCell ⟨w.heap.size + 1 + 1, 2, none⟩ (.int .u64 a1)).setCell ⟨w.heap.size + 1 + 1, 3, none⟩ (.int .u64 a0)) w.heap.size _ := X0.set4 (by omega)
  replace R0 : Blk ((((w1.setCell ⟨w.heap.size + 1 + 1, 0, none⟩ (.int .u64 a3)).setCell ⟨w.heap.size + 1 + 1, 1, none⟩ (.int .u64 a2)).setCell ⟨w.heap.size + 1 + 1, 2, none⟩ (.int .u64 a1)).setCell ⟨w.heap.size + 1 + 1, 3, none⟩ (.int .u64 a0)) (w.heap.size + 1) _ := R0.set4 (by omega)
  replace O0 := (((O0.setI 0 (by simp) (.int .u64 a3)).setI 1 (by simp) (.int .u64 a2)).setI 2 (by simp) (.int .u64 a1)).setI 3 (by simp) (.int .u64 a0)
  replace HB : Below w.heap.size w ((((w1.setCell ⟨w.heap.size + 1 + 1, 0, none⟩ (.int .u64 a3)).setCell ⟨w.heap.size + 1 + 1, 1, none⟩ (.int .u64 a2)).setCell ⟨w.heap.size + 1 + 1, 2, none⟩ (.int .u64 a1)).setCell ⟨w.heap.size + 1 + 1, 3, none⟩ (.int .u64 a0)) := (((HB.setCell (by show w.heap.size ≤ w.heap.size + 1 + 1; omega) _).setCell (by show w.heap.size ≤ w.heap.size + 1 + 1; omega) _).setCell (by show w.heap.size ≤ w.heap.size + 1 + 1; omega) _).setCell (by show w.heap.size ≤ w.heap.size + 1 + 1; omega) _
  generalize ((((w1.setCell ⟨w.heap.size + 1 + 1, 0, none⟩ (.int .u64 a3)).setCell ⟨w.heap.size + 1 + 1, 1, none⟩ (.int .u64 a2)).setCell ⟨w.heap.size + 1 + 1, 2, none⟩ (.int .u64 a1)).setCell ⟨w.heap.size + 1 + 1, 3, none⟩ (.int .u64 a0)) = W1 at *
  simp only [List.set_cons_zero, List.set_cons_succ] at O0
  refine (toWide_any b3 b2 b1 b0 _).mono ?_
  rintro e w2 ⟨rfl, hB⟩
  replace R0 := R0.step hB; replace O0 := O0.step hB; replace HB := HB.trans (hB.mono HB.size)
  clear hB X0
  have o0 := O0.c 0 rfl; have p0 := O0.f 0 rfl; have r0 := R0.c 0 rfl; have q0 := R0.f 0 rfl; have o1 := O0.c 1 rfl; have p1 := O0.f 1 rfl; have r1 := R0.c 1 rfl; have q1 := R0.f 1 rfl; have o2 := O0.c 2 rfl; have p2 := O0.f 2 rfl; have r2 := R0.c 2 rfl; have q2 := R0.f 2 rfl; have o3 := O0.c 3 rfl; have p3 := O0.f 3 rfl; have r3 := R0.c 3 rfl; have q3 := R0.f 3 rfl; have o4 := O0.c 4 rfl; have p4 := O0.f 4 rfl; have r4 := R0.c 4 rfl; have q4 := R0.f 4 rfl; have o5 := O0.c 5 rfl; have p5 := O0.f 5 rfl; have r5 := R0.c 5 rfl; have q5 := R0.f 5 rfl; have o6 := O0.c 6 rfl; have p6 := O0.f 6 rfl; have r6 := R0.c 6 rfl; have q6 := R0.f 6 rfl; have o7 := O0.c 7 rfl; have p7 := O0.f 7 rfl; have r7 := R0.c 7 rfl; have q7 := R0.f 7 rfl
  have lr := R0.lt; have lo := O0.lt
  have hne : w.heap.size + 1 + 1 ≠ w.heap.size + 1 := by omega
  clear R0 O0
  go_wp2
  refine bodyPost_ret (v := Rt a3 a2 a1 a0 b3 b2 b1 b0) (by simp [results, Try.results30, go_sem, r0, r1, r2, r3, r4, r5, r6, r7]) rfl ?_
  refine ⟨rfl, ?_⟩
  repeat' (refine Below.setCell ?_ (by simp; try omega) _)
  exact HB
end Go.Proofs.Ytddniklhpkagmaa
