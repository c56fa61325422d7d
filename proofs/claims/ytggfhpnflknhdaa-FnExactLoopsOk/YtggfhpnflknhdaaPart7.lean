/- Part 7 of the walks that the proof leans on. -/
import Derived.Test.YtggfhpnflknhdaaPart6
import Derived.Test.YtggfhpnflknhdaaRows
import Derived.ProofKit
import Derived.Lib.SmallJoins
/- Points: the model's word on whether one is right. -/
namespace Go.Proofs.Ytggfhpnflknhdaa
open Go.RowKit
theorem l3_cells0 {s1 s2 s3 : Bool} {o1 o2 o3 : Option Addr} {n1 n2 n3 c1 c2 c3 : Nat} {W : World} {gx : Nat} (X0 : Blk W gx [.bool s1, .slice o1 n1 c1, .bool s2, .slice o2 n2 c2, .bool s3, .slice o3 n3 c3]) : (fun w' => w'.cell? ⟨gx, 0, none⟩ = some (.bool s1) ∧ w'.cell? ⟨gx, 1, none⟩ = some (.slice o1 n1 c1) ∧ w'.cell? ⟨gx, 2, none⟩ = some (.bool s2) ∧ w'.cell? ⟨gx, 3, none⟩ = some (.slice o2 n2 c2) ∧ w'.cell? ⟨gx, 4, none⟩ = some (.bool s3) ∧ w'.cell? ⟨gx, 5, none⟩ = some (.slice o3 n3 c3)) W := ⟨X0.c 0 rfl, X0.c 1 rfl, X0.c 2 rfl, X0.c 3 rfl, X0.c 4 rfl, X0.c 5 rfl⟩
set_option maxRecDepth 100000 in
set_option maxHeartbeats 8000000 in
theorem specPointOk_det (x y z : Int) (hx : told x = true) (hy : told y = true) (hz : told z = true) (w : World) : Calls Try.prog 58 #[PV x y z] w (VP (.bool (ptB x y z)) w) := by
  have HB := (Below.refl _ w).alloc (Nat.le_refl _) (.cells #[.int .u64 (ww3 x), .int .u64 (ww2 x), .int .u64 (ww1 x), .int .u64 (ww0 x), .int .u64 (ww3 y), .int .u64 (ww2 y), .int .u64 (ww1 y), .int .u64 (ww0 y), .int .u64 (ww3 z), .int .u64 (ww2 z), .int .u64 (ww1 z), .int .u64 (ww0 z)] 30)
  have OF := l3Of_det x y z hx hy hz
  clear hx hy hz
  go_enter Try.func58, Try.ntmps58
  go_wp2_with fail
  refine (OF _).mono ?_
  rintro e w1 ⟨s1, o1, n1, c1, d1, s2, o2, n2, c2, d2, s3, o3, n3, c3, d3, rfl, N1, N2, N3, hB⟩
  replace HB := HB.trans (hB.mono HB.size)
  clear hB OF
  go_upto_region 2 with fail
  have X0 : Blk (w1.alloc (.cells #[.bool s1, .slice o1 n1 c1, .bool s2, .slice o2 n2 c2, .bool s3, .slice o3 n3 c3] 75)) w1.heap.size [.bool s1, .slice o1 n1 c1, .bool s2, .slice o2 n2 c2, .bool s3, .slice o3 n3 c3] := Blk.new w1 _ _ rfl
  have hb0 := (Below.refl w1.heap.size w1).alloc (Nat.le_refl _) (.cells #[.bool s1, .slice o1 n1 c1, .bool s2, .slice o2 n2 c2, .bool s3, .slice o3 n3 c3] 75)
  replace N1 := N1.below hb0
  replace N2 := N2.below hb0
  replace N3 := N3.below hb0
  replace HB := HB.alloc HB.size (.cells #[.bool s1, .slice o1 n1 c1, .bool s2, .slice o2 n2 c2, .bool s3, .slice o3 n3 c3] 75)
  clear hb0
  generalize w1.alloc (.cells #[.bool s1, .slice o1 n1 c1, .bool s2, .slice o2 n2 c2, .bool s3, .slice o3 n3 c3] 75) = W at *
  generalize w1.heap.size = gx at *
  replace N1 := N1.drew
  replace N2 := N2.drew
  replace N3 := N3.drew
  by_cases hs : 0 < z
  · by_cases h1 : (small x && small y && small z) = true
    · have HR : Hid (ptB x y z = (cmpI (Int.gcd (Int.gcd x y) z : Int) 1 == 0)) := by
        show _ = _
        unfold ptB
        rw [h1, Bool.eq_iff_iff]
        simp only [hs, decide_true, Bool.true_and, decide_eq_true_eq, beq_iff_eq]
        unfold cmpI
        split
        · constructor
          · intro h; omega
          · intro h; exact absurd h (by decide)
        · split
          · constructor
            · intro h; omega
            · intro h; exact absurd h (by decide)
          · exact ⟨fun _ => rfl, fun _ => by omega⟩
      obtain ⟨q, hq⟩ : ∃ q, cmpI (Int.gcd (Int.gcd x y) z : Int) 1 = q := ⟨_, rfl⟩
      rw [hq] at HR
      have tok1 : True := trivial
      go_region_held3 (fun w' => w'.cell? ⟨gx, 0, none⟩ = some (.bool s1) ∧ w'.cell? ⟨gx, 1, none⟩ = some (.slice o1 n1 c1) ∧ w'.cell? ⟨gx, 2, none⟩ = some (.bool s2) ∧ w'.cell? ⟨gx, 3, none⟩ = some (.slice o2 n2 c2) ∧ w'.cell? ⟨gx, 4, none⟩ = some (.bool s3) ∧ w'.cell? ⟨gx, 5, none⟩ = some (.slice o3 n3 c3)) (first | (with_reducible exact l3_cells0 X0) | (with_reducible exact l3_cells0 X0.drew))
        (first
          | (go_at_call 98; refine (sign_any s3 o3 n3 c3 d3 _ 8 _ N3).mono ?_; rintro e w2 ⟨rfl, hB⟩; rw [cmpI_gt hs]; (first | (replace X0 := X0.step hB; replace HB := HB.trans (hB.mono HB.size)) | (replace X0 := X0.drew.step hB; replace HB := HB.drew.trans (hB.mono HB.size))); replace N1 := N1.below hB; replace N2 := N2.below hB; replace N3 := N3.below hB; clear hB)
          | (go_at_call 79; refine (l3Small_any s1 o1 n1 c1 d1 s2 o2 n2 c2 d2 s3 o3 n3 c3 d3 x y z 8 (by omega) _ N1 N2 N3).mono ?_; rintro e w3 ⟨rfl, hB⟩; rw [h1]; (first | (replace X0 := X0.step hB; replace HB := HB.trans (hB.mono HB.size)) | (replace X0 := X0.drew.step hB; replace HB := HB.drew.trans (hB.mono HB.size))); replace N1 := N1.below hB; replace N2 := N2.below hB; replace N3 := N3.below hB; clear hB)
          | (go_at_call 100; have _t := tok1; refine (gcd_any s1 s2 o1 o2 n1 n2 c1 c2 8 d1 d2 _ _ _ N1 N2 (by omega)).mono ?_; rintro e w4 ⟨s4, o4, n4, c4, d4, rfl, N4, hB⟩; (first | (replace X0 := X0.step hB; replace HB := HB.trans (hB.mono HB.size)) | (replace X0 := X0.drew.step hB; replace HB := HB.drew.trans (hB.mono HB.size))); replace N3 := N3.below hB; clear hB; clear tok1 _t N1 N2)
          | (go_at_call 100; refine (gcd_any s4 s3 o4 o3 n4 n3 c4 c3 8 d4 d3 _ _ _ N4 N3 (by omega)).mono ?_; rintro e w5 ⟨s5, o5, n5, c5, d5, rfl, N5, hB⟩; (first | (replace X0 := X0.step hB; replace HB := HB.trans (hB.mono HB.size)) | (replace X0 := X0.drew.step hB; replace HB := HB.drew.trans (hB.mono HB.size))); clear hB; clear N3 N4)
          | (go_at_call 75; refine (int_any 1 _ (by decide) (by decide)).mono ?_; rintro e w6 ⟨s6, o6, n6, c6, d6, rfl, N6, hB⟩; (first | (replace X0 := X0.step hB; replace HB := HB.trans (hB.mono HB.size)) | (replace X0 := X0.drew.step hB; replace HB := HB.drew.trans (hB.mono HB.size))); replace N5 := N5.below hB; clear hB)
          | (go_at_call 99; refine (cmp_any s5 s6 o5 o6 n5 n6 c5 c6 8 d5 d6 _ _ _ N5 (num_more N6 (by decide)) (by omega)).mono ?_; rintro e w7 ⟨rfl, hB⟩; rw [hq]; (first | (replace X0 := X0.step hB; replace HB := HB.trans (hB.mono HB.size)) | (replace X0 := X0.drew.step hB; replace HB := HB.drew.trans (hB.mono HB.size))); clear hB))
      all_goals clear hq hs h1 X0
      all_goals go_wp2
      all_goals go_ret
      all_goals exact ⟨by rw [HR.out]; simp, by first | exact HB | exact HB.drew⟩
    · replace h1 := Bool.eq_false_iff.2 h1
      have HR : Hid (ptB x y z = false) := by show _ = _; unfold ptB; rw [h1]; simp
      have q0 := X0.c 0 rfl; have q1 := X0.c 1 rfl; have q2 := X0.c 2 rfl; have q3 := X0.c 3 rfl; have q4 := X0.c 4 rfl; have q5 := X0.c 5 rfl
      refine wp_region_any (by kernel_rfl) ?_
      try (change wpAny _ _ _ _ _ _ _ (World.drew _))
      refine wpAny_ready (rs := [0]) (by kernel_rfl) (by simp) ?_
      refine AllReady.cons rfl (fun K hK => ?_) AllReady.nil
      go_simp
      refine hK _ _ ?_
      clear hK K
      refine wpAny_ready (rs := [1]) (by kernel_rfl) (by simp) ?_
      refine AllReady.cons rfl (fun K hK => ?_) AllReady.nil
      go_simp
      refine hK _ _ ?_
      clear hK K
      refine wpAny_ready (rs := [2]) (by kernel_rfl) (by simp) ?_
      refine AllReady.cons rfl (fun K hK => ?_) AllReady.nil
      go_simp
      go_wp2_with (go_at_call 98; refine (sign_any s3 o3 n3 c3 d3 _ 8 _ N3).mono ?_; rintro e w2 ⟨rfl, hB⟩; rw [cmpI_gt hs]; (first | (replace X0 := X0.step hB; replace HB := HB.trans (hB.mono HB.size)) | (replace X0 := X0.drew.step hB; replace HB := HB.drew.trans (hB.mono HB.size))); replace N1 := N1.below hB; replace N2 := N2.below hB; replace N3 := N3.below hB; clear hB; clear q0 q1 q2 q3 q4 q5; have q0 := X0.c 0 rfl; have q1 := X0.c 1 rfl; have q2 := X0.c 2 rfl; have q3 := X0.c 3 rfl; have q4 := X0.c 4 rfl; have q5 := X0.c 5 rfl)
      (try (refine hK _ _ ?_; clear hK K))
      refine wpAny_ready (rs := [3]) (by kernel_rfl) (by simp) ?_
      refine AllReady.cons rfl (fun K hK => ?_) AllReady.nil
      go_simp
      refine hK _ _ ?_
      clear hK K
      refine wpAny_ready (rs := [4]) (by kernel_rfl) (by simp) ?_
      refine AllReady.cons rfl (fun K hK => ?_) AllReady.nil
      go_simp
      refine hK _ _ ?_
      clear hK K
      refine wpAny_ready (rs := [5]) (by kernel_rfl) (by simp) ?_
      refine AllReady.cons rfl (fun K hK => ?_) AllReady.nil
      go_simp
      refine hK _ _ ?_
      clear hK K
      refine wpAny_ready (rs := [6]) (by kernel_rfl) (by simp) ?_
      refine AllReady.cons rfl (fun K hK => ?_) AllReady.nil
      go_simp
      go_wp2_with (go_at_call 79; refine (l3Small_any s1 o1 n1 c1 d1 s2 o2 n2 c2 d2 s3 o3 n3 c3 d3 x y z 8 (by omega) _ N1 N2 N3).mono ?_; rintro e w3 ⟨rfl, hB⟩; rw [h1]; (first | (replace X0 := X0.step hB; replace HB := HB.trans (hB.mono HB.size)) | (replace X0 := X0.drew.step hB; replace HB := HB.drew.trans (hB.mono HB.size))); clear hB; clear q0 q1 q2 q3 q4 q5 X0 N1 N2 N3)
      (try (refine hK _ _ ?_; clear hK K))
      refine wpAny_ready (rs := [7]) (by kernel_rfl) (by simp) ?_
      refine AllReady.cons rfl (fun K hK => ?_) AllReady.nil
      go_simp
      refine hK _ _ ?_
      clear hK K
      refine wpAny_ready (rs := [8]) (by kernel_rfl) (by simp) ?_
      refine AllReady.cons rfl (fun K hK => ?_) AllReady.nil
      go_simp
      refine hK _ _ ?_
      clear hK K
      refine wpAny_take (i := 9) (v := undef) rfl (by kernel_rfl) (by kernel_rfl) (by kernel_rfl) (fun _ _ _ h => h) (Or.inr ⟨by kernel_rfl, rfl⟩) ?_
      refine wpAny_take (i := 10) (v := undef) rfl (by kernel_rfl) (by kernel_rfl) (by kernel_rfl) (fun _ _ _ h => h) (Or.inr ⟨by kernel_rfl, rfl⟩) ?_
      refine wpAny_take (i := 11) (v := undef) rfl (by kernel_rfl) (by kernel_rfl) (by kernel_rfl) (fun _ _ _ h => h) (Or.inr ⟨by kernel_rfl, rfl⟩) ?_
      refine wpAny_take (i := 12) (v := undef) rfl (by kernel_rfl) (by kernel_rfl) (by kernel_rfl) (fun _ _ _ h => h) (Or.inr ⟨by kernel_rfl, rfl⟩) ?_
      refine wpAny_take (i := 13) (v := undef) rfl (by kernel_rfl) (by kernel_rfl) (by kernel_rfl) (fun _ _ _ h => h) (Or.inr ⟨by kernel_rfl, rfl⟩) ?_
      refine wpAny_take (i := 14) (v := undef) rfl (by kernel_rfl) (by kernel_rfl) (by kernel_rfl) (fun _ _ _ h => h) (Or.inr ⟨by kernel_rfl, rfl⟩) ?_
      refine wpAny_take (i := 15) (v := undef) rfl (by kernel_rfl) (by kernel_rfl) (by kernel_rfl) (fun _ _ _ h => h) (Or.inr ⟨by kernel_rfl, rfl⟩) ?_
      refine wpAny_take (i := 16) (v := undef) rfl (by kernel_rfl) (by kernel_rfl) (by kernel_rfl) (fun _ _ _ h => h) (Or.inr ⟨by kernel_rfl, rfl⟩) ?_
      refine wpAny_take (i := 17) (v := undef) rfl (by kernel_rfl) (by kernel_rfl) (by kernel_rfl) (fun _ _ _ h => h) (Or.inr ⟨by kernel_rfl, rfl⟩) ?_
      refine wpAny_take (i := 18) (v := undef) rfl (by kernel_rfl) (by kernel_rfl) (by kernel_rfl) (fun _ _ _ h => h) (Or.inr ⟨by kernel_rfl, rfl⟩) ?_
      refine wpAny_take (i := 19) (v := undef) rfl (by kernel_rfl) (by kernel_rfl) (by kernel_rfl) (fun _ _ _ h => h) (Or.inr ⟨by kernel_rfl, rfl⟩) ?_
      refine wpAny_ready (rs := [20]) (by kernel_rfl) (by simp) ?_
      refine AllReady.cons rfl (fun K hK => ?_) AllReady.nil
      go_simp
      refine hK _ _ ?_
      clear hK K
      refine wpAny_ready (rs := [21]) (by kernel_rfl) (by simp) ?_
      refine AllReady.cons rfl (fun K hK => ?_) AllReady.nil
      go_simp
      refine hK _ _ ?_
      clear hK K
      refine wpAny_done (by kernel_rfl) ?_ _
      go_wp2
      go_ret
      exact ⟨by rw [HR.out]; rfl, by first | exact HB | exact HB.drew⟩
  · have HR : Hid (ptB x y z = false) := by show _ = _; unfold ptB; simp [hs]
    have hcs : cmpI z 0 = -1 ∨ cmpI z 0 = 0 := by
      rcases Int.lt_trichotomy z 0 with h | h | h
      · exact Or.inl (cmpI_lt h)
      · exact Or.inr (cmpI_eq h)
      · exact absurd h hs
    have q0 := X0.c 0 rfl; have q1 := X0.c 1 rfl; have q2 := X0.c 2 rfl; have q3 := X0.c 3 rfl; have q4 := X0.c 4 rfl; have q5 := X0.c 5 rfl
    obtain ⟨q, hq⟩ : ∃ q, cmpI z 0 = q := ⟨_, rfl⟩
    rw [hq] at hcs
    have hd1 : decide (0 < q) = false := by rcases hcs with rfl | rfl <;> rfl
    clear hcs hs
    refine wp_region_any (by kernel_rfl) ?_
    try (change wpAny _ _ _ _ _ _ _ (World.drew _))
    refine wpAny_ready (rs := [0]) (by kernel_rfl) (by simp) ?_
    refine AllReady.cons rfl (fun K hK => ?_) AllReady.nil
    go_simp
    refine hK _ _ ?_
    clear hK K
    refine wpAny_ready (rs := [1]) (by kernel_rfl) (by simp) ?_
    refine AllReady.cons rfl (fun K hK => ?_) AllReady.nil
    go_simp
    refine hK _ _ ?_
    clear hK K
    refine wpAny_ready (rs := [2]) (by kernel_rfl) (by simp) ?_
    refine AllReady.cons rfl (fun K hK => ?_) AllReady.nil
    go_simp
    go_wp2_with (go_at_call 98; refine (sign_any s3 o3 n3 c3 d3 _ 8 _ N3).mono ?_; rintro e w2 ⟨rfl, hB⟩; rw [hq]; (first | (replace X0 := X0.step hB; replace HB := HB.trans (hB.mono HB.size)) | (replace X0 := X0.drew.step hB; replace HB := HB.drew.trans (hB.mono HB.size))); clear hB; clear q0 q1 q2 q3 q4 q5 X0 N1 N2 N3)
    (try (refine hK _ _ ?_; clear hK K))
    refine wpAny_ready (rs := [3]) (by kernel_rfl) (by simp) ?_
    refine AllReady.cons rfl (fun K hK => ?_) AllReady.nil
    go_simp
    refine hK _ _ ?_
    clear hK K
    refine wpAny_ready (rs := [4]) (by kernel_rfl) (by simp) ?_
    refine AllReady.cons rfl (fun K hK => ?_) AllReady.nil
    go_simp
    refine hK _ _ ?_
    clear hK K
    refine wpAny_take (i := 5) (v := undef) rfl (by kernel_rfl) (by kernel_rfl) (by kernel_rfl) (fun _ _ _ h => h) (Or.inr ⟨by kernel_rfl, rfl⟩) ?_
    refine wpAny_take (i := 6) (v := undef) rfl (by kernel_rfl) (by kernel_rfl) (by kernel_rfl) (fun _ _ _ h => h) (Or.inr ⟨by kernel_rfl, rfl⟩) ?_
    refine wpAny_ready (rs := [7]) (by kernel_rfl) (by simp) ?_
    refine AllReady.cons rfl (fun K hK => ?_) AllReady.nil
    go_simp
    refine hK _ _ ?_
    clear hK K
    refine wpAny_ready (rs := [8]) (by kernel_rfl) (by simp) ?_
    refine AllReady.cons rfl (fun K hK => ?_) AllReady.nil
    go_simp
    refine hK _ _ ?_
    clear hK K
    refine wpAny_take (i := 9) (v := undef) rfl (by kernel_rfl) (by kernel_rfl) (by kernel_rfl) (fun _ _ _ h => h) (Or.inr ⟨by kernel_rfl, rfl⟩) ?_
    refine wpAny_take (i := 10) (v := undef) rfl (by kernel_rfl) (by kernel_rfl) (by kernel_rfl) (fun _ _ _ h => h) (Or.inr ⟨by kernel_rfl, rfl⟩) ?_
    refine wpAny_take (i := 11) (v := undef) rfl (by kernel_rfl) (by kernel_rfl) (by kernel_rfl) (fun _ _ _ h => h) (Or.inr ⟨by kernel_rfl, rfl⟩) ?_
    refine wpAny_take (i := 12) (v := undef) rfl (by kernel_rfl) (by kernel_rfl) (by kernel_rfl) (fun _ _ _ h => h) (Or.inr ⟨by kernel_rfl, rfl⟩) ?_
    refine wpAny_take (i := 13) (v := undef) rfl (by kernel_rfl) (by kernel_rfl) (by kernel_rfl) (fun _ _ _ h => h) (Or.inr ⟨by kernel_rfl, rfl⟩) ?_
    refine wpAny_take (i := 14) (v := undef) rfl (by kernel_rfl) (by kernel_rfl) (by kernel_rfl) (fun _ _ _ h => h) (Or.inr ⟨by kernel_rfl, rfl⟩) ?_
    refine wpAny_take (i := 15) (v := undef) rfl (by kernel_rfl) (by kernel_rfl) (by kernel_rfl) (fun _ _ _ h => h) (Or.inr ⟨by kernel_rfl, rfl⟩) ?_
    refine wpAny_take (i := 16) (v := undef) rfl (by kernel_rfl) (by kernel_rfl) (by kernel_rfl) (fun _ _ _ h => h) (Or.inr ⟨by kernel_rfl, rfl⟩) ?_
    refine wpAny_take (i := 17) (v := undef) rfl (by kernel_rfl) (by kernel_rfl) (by kernel_rfl) (fun _ _ _ h => h) (Or.inr ⟨by kernel_rfl, rfl⟩) ?_
    refine wpAny_take (i := 18) (v := undef) rfl (by kernel_rfl) (by kernel_rfl) (by kernel_rfl) (fun _ _ _ h => h) (Or.inr ⟨by kernel_rfl, rfl⟩) ?_
    refine wpAny_take (i := 19) (v := undef) rfl (by kernel_rfl) (by kernel_rfl) (by kernel_rfl) (fun _ _ _ h => h) (Or.inr ⟨by kernel_rfl, rfl⟩) ?_
    refine wpAny_ready (rs := [20]) (by kernel_rfl) (by simp) ?_
    refine AllReady.cons rfl (fun K hK => ?_) AllReady.nil
    go_simp
    refine hK _ _ ?_
    clear hK K
    refine wpAny_ready (rs := [21]) (by kernel_rfl) (by simp) ?_
    refine AllReady.cons rfl (fun K hK => ?_) AllReady.nil
    go_simp
    refine hK _ _ ?_
    clear hK K
    refine wpAny_done (by kernel_rfl) ?_ _
    go_wp2
    go_ret
    exact ⟨by rw [HR.out]; rfl, by first | exact HB | exact HB.drew⟩
end Go.Proofs.Ytggfhpnflknhdaa

/- Rows of loops of points: how they lie, and the walks over them. -/
namespace Go.Proofs.Ytggfhpnflknhdaa
open Go.RowKit
abbrev Qs := Nat → Int × Int × Int
/-- n loops lie behind a slice's address: each a slice of points. -/
def LpIn (w : World) (ao : Option Addr) (n : Nat) (S : Nat → Option Addr × Nat) (L : Nat → Nat) (q : Nat → Qs) : Prop :=
  ∀ i, i < n → ∃ A off, ao = some ⟨A, off, none⟩ ∧ A < w.heap.size ∧ w.cell? ⟨A, off + i, none⟩ = some (.slice (S i).1 (L i) (S i).2) ∧ PtIn w (S i).1 (L i) (q i)
theorem LpIn.step {w w' : World} {ao : Option Addr} {n : Nat} {S : Nat → Option Addr × Nat} {L : Nat → Nat} {q : Nat → Qs} (h : LpIn w ao n S L q) (hB : Below w.heap.size w w') : LpIn w' ao n S L q := fun i hi => by
  obtain ⟨A, off, e, hA, hc, hp⟩ := h i hi
  exact ⟨A, off, e, Nat.lt_of_lt_of_le hA hB.size, (hB.cell (p := ⟨A, off + i, none⟩) hA).trans hc, hp.step hB⟩
/-- All parts of the points are told. -/
def ToldQ (n : Nat) (L : Nat → Nat) (q : Nat → Qs) : Prop := ∀ i, i < n → ∀ k, k < L i → told (q i k).1 = true ∧ told (q i k).2.1 = true ∧ told (q i k).2.2 = true
def sumL (L : Nat → Nat) : Nat → Nat
  | 0 => 0
  | n + 1 => sumL L n + L n
theorem sumL_le (L : Nat → Nat) {m n : Nat} (h : m ≤ n) : sumL L m ≤ sumL L n := by
  induction n with
  | zero => obtain rfl : m = 0 := by omega
            exact Nat.le_refl _
  | succ k ih =>
    rcases Nat.lt_or_ge m (k + 1) with h' | h'
    · have := ih (by omega)
      show sumL L m ≤ sumL L k + L k
      omega
    · obtain rfl : m = k + 1 := by omega
      exact Nat.le_refl _
theorem sumL_bound (L : Nat → Nat) (b : Nat) (n : Nat) (h : ∀ i, i < n → L i ≤ b) : sumL L n ≤ n * b := by
  induction n with
  | zero => simp [sumL]
  | succ k ih =>
    have h1 := ih (fun i hi => h i (by omega))
    have h2 := h k (by omega)
    show sumL L k + L k ≤ (k + 1) * b
    rw [Nat.succ_mul]
    omega
/-- Whether a loop's points are right. -/
def rowB (m : Nat) (q : Qs) : Bool := decide (∀ k, k < m → ptB (q k).1 (q k).2.1 (q k).2.2 = true)
/-- Whether the loops are so. -/
def lpB (n : Nat) (L : Nat → Nat) (q : Nat → Qs) : Bool := decide (n ≤ 40 ∧ (∀ i, i < n → 3 ≤ L i) ∧ sumL L n ≤ 200 ∧ ∀ i, i < n → rowB (L i) (q i) = true)
theorem lpB_no {n : Nat} {L : Nat → Nat} {q : Nat → Qs} (h : ¬ (n ≤ 40 ∧ (∀ i, i < n → 3 ≤ L i) ∧ sumL L n ≤ 200 ∧ ∀ i, i < n → rowB (L i) (q i) = true)) : lpB n L q = false := by
  unfold lpB
  exact decide_eq_false h
theorem rowB_no {m : Nat} {q : Qs} {k : Nat} (hk : k < m) (h : ¬ ptB (q k).1 (q k).2.1 (q k).2.2 = true) : rowB m q = false := by
  unfold rowB
  exact decide_eq_false (fun hh => h (hh k hk))
theorem rowB_yes {m : Nat} {q : Qs} (h : ∀ k, k < m → ptB (q k).1 (q k).2.1 (q k).2.2 = true) : rowB m q = true := by
  unfold rowB
  exact decide_eq_true h
set_option maxRecDepth 100000 in
set_option maxHeartbeats 2000000 in
theorem specLoopsOk_any (ao : Option Addr) (n cap : Nat) (S : Nat → Option Addr × Nat) (L : Nat → Nat) (q : Nat → Qs) (w : World) (hS : LpIn w ao n S L q) (hT : ToldQ n L q) (hL : ∀ i, i < n → L i ≤ 1048576) : Calls Try.prog 33 #[.slice ao n cap] w (VP (.bool (lpB n L q)) w) := by
  by_cases hn : 40 < n
  · have HO : Hid (lpB n L q = false) := lpB_no (fun h => by omega)
    go_enter Try.func33, Try.ntmps33
    have hn' : (40 : Int) < n := by omega
    clear hS hT hL
    go_wp2
    go_ret
    exact ⟨by rw [HO.out]; rfl, Below.refl _ _⟩
  · go_enter Try.func33, Try.ntmps33
    have hn' : (n : Int) ≤ 40 := by omega
    have HS : Hid (LpIn w ao n S L q) := hS
    have HT : Hid (ToldQ n L q) := hT
    have HL : Hid (∀ i, i < n → L i ≤ 1048576) := hL
    clear hS hT hL
    go_wp2_with fail
    go_loopw [3, 4] (fun s i wr => ∃ c : Nat, c ≤ n ∧ i = .int .i64 c ∧ s = .int .i64 (sumL L c) ∧ sumL L c ≤ 200 ∧ (∀ j, j < c → 3 ≤ L j) ∧ (∀ j, j < c → rowB (L j) (q j) = true) ∧ Below w.heap.size w wr) (fun _ i _ => n - (intOf i).toNat)
    case atStart => exact ⟨0, by omega, rfl, rfl, by simp [sumL], fun j hj => by omega, fun j hj => by omega, Below.refl _ _⟩
    case round =>
      obtain ⟨c, hc, rfl, rfl, hsum, h3, hall, HB⟩ := hrel
      have H3 : Hid (∀ j, j < c → 3 ≤ L j) := h3
      have HA : Hid (∀ j, j < c → rowB (L j) (q j) = true) := hall
      clear hall h3
      by_cases hcn : c < n
      · obtain ⟨A, off, rfl, hA, hcell, hrow⟩ := HS.out.step HB c hcn
        have hLc := HL.out c hcn
        have hTc := HT.out c hcn
        have HR : Hid (PtIn wr (S c).1 (L c) (q c)) := hrow
        have HTc : Hid (∀ k, k < L c → told (q c k).1 = true ∧ told (q c k).2.1 = true ∧ told (q c k).2.2 = true) := hTc
        have hcI : (c : Int) < n := by omega
        have hs1 : sumL L (c + 1) = sumL L c + L c := rfl
        have hsI : (sumL L c : Int) ≤ 200 := by omega
        have hLI : (L c : Int) ≤ 1048576 := by omega
        clear hrow hTc
        by_cases hb : L c < 3 ∨ 200 < sumL L c + L c
        · have HO : Hid (lpB n L q = false) := lpB_no (fun h => by
            rcases hb with h' | h'
            · have := h.2.1 c hcn; omega
            · have := sumL_le L (show c + 1 ≤ n by omega); have := h.2.2.1; omega)
          rcases hb with h' | h'
          · have h'I : (L c : Int) < 3 := by omega
            clear HS HT HL HR HTc H3 HA hs1
            go_wp2
            go_ret
            exact ⟨by rw [HO.out]; rfl, HB⟩
          · have h'I : (200 : Int) < sumL L c + L c := by omega
            by_cases h2 : L c < 3
            · have h2I : (L c : Int) < 3 := by omega
              clear HS HT HL HR HTc H3 HA hs1
              go_wp2
              go_ret
              exact ⟨by rw [HO.out]; rfl, HB⟩
            · have h2I : (3 : Int) ≤ L c := by omega
              clear HS HT HL HR HTc H3 HA hs1
              go_wp2
              go_ret
              exact ⟨by rw [HO.out]; rfl, HB⟩
        · have h2I : (3 : Int) ≤ L c := by omega
          have h'I : (sumL L c : Int) + L c ≤ 200 := by omega
          have hcb : (c : Int) ≤ 40 := by omega
          go_wp2_with fail
          go_loopw [5] (fun k wk => ∃ d : Nat, d ≤ L c ∧ k = .int .i64 d ∧ (∀ j, j < d → ptB (q c j).1 (q c j).2.1 (q c j).2.2 = true) ∧ Below wr.heap.size wr wk) (fun k _ => L c - (intOf k).toNat)
          case atStart => exact ⟨0, by omega, rfl, fun j hj => by omega, Below.refl _ _⟩
          case round =>
            rename_i hrel
            obtain ⟨d, hd, rfl, hp, HB2⟩ := hrel
            have HP : Hid (∀ j, j < d → ptB (q c j).1 (q c j).2.1 (q c j).2.2 = true) := hp
            clear hp
            have hcell2 := (HB2.cell (p := ⟨A, off + c, none⟩) hA).trans hcell
            by_cases hdn : d < L c
            · obtain ⟨B, of2, hsc, hB', q0, q1, q2, q3, q4, q5, q6, q7, q8, q9, q10, q11⟩ := (HR.out.step HB2).at hdn
              rw [hsc] at hcell2
              obtain ⟨t1, t2, t3⟩ := HTc.out d hdn
              have PO := specPointOk_det (q c d).1 (q c d).2.1 (q c d).2.2 t1 t2 t3
              have hdI : (d : Int) < L c := by omega
              clear t1 t2 t3 hcell hsc
              go_wp2_with fail
              refine (PO _).mono ?_
              rintro e w1 ⟨rfl, hB⟩
              replace HB2 := HB2.trans (hB.mono HB2.size)
              clear hB PO q0 q1 q2 q3 q4 q5 q6 q7 q8 q9 q10 q11 hB'
              by_cases hk : ptB (q c d).1 (q c d).2.1 (q c d).2.2 = true
              · rw [hk]
                have HK : Hid (ptB (q c d).1 (q c d).2.1 (q c d).2.2 = true) := hk
                clear hk
                go_wp2
                go_roundw
                case rel => exact ⟨d + 1, by omega, by go_num, fun j hj => by
                  rcases Nat.lt_or_ge j d with h | h
                  · exact HP.out j h
                  · obtain rfl : j = d := by omega
                    exact HK.out, HB2⟩
                case measure => simp [intOf]; omega
              · have HO : Hid (lpB n L q = false) := lpB_no (fun h => by
                  have := h.2.2.2 c hcn
                  rw [rowB_no hdn hk] at this
                  cases this)
                rw [Bool.eq_false_iff.2 hk]
                have HBF := HB.trans (HB2.mono HB.size)
                clear hk
                go_wp2
                go_ret
                exact ⟨by rw [HO.out]; rfl, HBF⟩
            · obtain rfl : d = L c := by omega
              have HQ : Hid (rowB (L c) (q c) = true) := rowB_yes HP.out
              have HBF := HB.trans (HB2.mono HB.size)
              clear HP
              go_wp2
              go_roundw
              case rel => exact ⟨c + 1, by omega, by go_num, by show _ = Value.int _ ((sumL L c + L c : Nat) : Int); go_num, by show sumL L c + L c ≤ 200; omega, fun j hj => by
                rcases Nat.lt_or_ge j c with h | h
                · exact H3.out j h
                · obtain rfl : j = c := by omega
                  omega, fun j hj => by
                rcases Nat.lt_or_ge j c with h | h
                · exact HA.out j h
                · obtain rfl : j = c := by omega
                  exact HQ.out, HBF⟩
              case measure => simp [intOf]; omega
      · obtain rfl : c = n := by omega
        have HO : Hid (lpB c L q = true) := by
          show _ = _
          unfold lpB
          exact decide_eq_true ⟨by omega, H3.out, hsum, HA.out⟩
        clear HA HS HT HL H3
        go_wp2
        go_ret
        exact ⟨by rw [HO.out]; rfl, HB⟩
end Go.Proofs.Ytggfhpnflknhdaa

/- Rows of loops of points: the program's walks. -/
namespace Go.Proofs.Ytggfhpnflknhdaa
open Go.RowKit
set_option maxRecDepth 100000 in
set_option maxHeartbeats 2000000 in
theorem loopRight_any (ao : Option Addr) (m cap : Nat) (q : Qs) (w : World) (hS : PtIn w ao m q) (hT : ∀ k, k < m → told (q k).1 = true ∧ told (q k).2.1 = true ∧ told (q k).2.2 = true) (hm : m ≤ 1048576) : Calls Try.prog 69 #[.agg #[.slice ao m cap]] w (VP (.bool (rowB m q)) w) := by
  have B0 := Blk.new w [.slice ao m cap] 118 rfl
  have HB0 : Below w.heap.size w (w.alloc (.cells #[.slice ao m cap] 118)) := (Below.refl _ w).alloc (Nat.le_refl _) _
  have hmI : (m : Int) ≤ 1048576 := by omega
  have HS : Hid (PtIn (w.alloc (.cells #[.slice ao m cap] 118)) ao m q) := hS.step ((Below.refl _ w).alloc (Nat.le_refl _) _)
  have HT : Hid (∀ k, k < m → told (q k).1 = true ∧ told (q k).2.1 = true ∧ told (q k).2.2 = true) := hT
  clear hS hT
  go_enter Try.func69, Try.ntmps69
  have b0 := B0.c 0 rfl
  go_wp2_with fail
  generalize w.alloc (.cells #[.slice ao m cap] 118) = W1 at *
  go_loopw [8] (fun i wr => ∃ c : Nat, c ≤ m ∧ i = .int .i64 c ∧ (∀ j, j < c → ptB (q j).1 (q j).2.1 (q j).2.2 = true) ∧ Below W1.heap.size W1 wr) (fun i _ => m - (intOf i).toNat)
  case atStart => exact ⟨0, by omega, rfl, fun j hj => by omega, Below.refl _ _⟩
  case round =>
    obtain ⟨c, hc, rfl, hall, HB⟩ := hrel
    have HA : Hid (∀ j, j < c → ptB (q j).1 (q j).2.1 (q j).2.2 = true) := hall
    clear hall b0
    by_cases hcn : c < m
    · obtain ⟨A, off, rfl, hA, q0, q1, q2, q3, q4, q5, q6, q7, q8, q9, q10, q11⟩ := (HS.out.step HB).at hcn
      obtain ⟨t1, t2, t3⟩ := HT.out c hcn
      have PO := pright_det (q c).1 (q c).2.1 (q c).2.2 t1 t2 t3
      have hcI : (c : Int) < m := by omega
      clear t1 t2 t3 B0
      go_wp2_with fail
      refine (PO _).mono ?_
      rintro e w1 ⟨rfl, hB⟩
      replace HB := (HB.alloc HB.size _).trans (hB.mono (HB.alloc HB.size _).size)
      clear hB PO q0 q1 q2 q3 q4 q5 q6 q7 q8 q9 q10 q11 hA
      by_cases hk : ptB (q c).1 (q c).2.1 (q c).2.2 = true
      · rw [hk]
        have HK : Hid (ptB (q c).1 (q c).2.1 (q c).2.2 = true) := hk
        clear hk
        go_wp2
        go_roundw
        case rel => exact ⟨c + 1, by omega, by go_num, fun j hj => by
          rcases Nat.lt_or_ge j c with h | h
          · exact HA.out j h
          · obtain rfl : j = c := by omega
            exact HK.out, HB⟩
        case measure => simp [intOf]; omega
      · have HO : Hid (rowB m q = false) := rowB_no hcn hk
        rw [Bool.eq_false_iff.2 hk]
        have HBF := HB0.trans (HB.mono HB0.size)
        clear hk
        go_wp2
        go_ret
        exact ⟨by rw [HO.out]; rfl, HBF⟩
    · obtain rfl : c = m := by omega
      have HO : Hid (rowB c q = true) := rowB_yes HA.out
      have HBF := HB0.trans (HB.mono HB0.size)
      clear HA HS HT B0
      go_wp2
      go_ret
      exact ⟨by rw [HO.out]; rfl, HBF⟩
set_option maxRecDepth 100000 in
set_option maxHeartbeats 2000000 in
theorem implLoopsOk_any (ao : Option Addr) (n cap : Nat) (S : Nat → Option Addr × Nat) (L : Nat → Nat) (q : Nat → Qs) (w : World) (hS : LpIn w ao n S L q) (hT : ToldQ n L q) (hL : ∀ i, i < n → L i ≤ 1048576) : Calls Try.prog 35 #[.slice ao n cap] w (VP (.bool (lpB n L q)) w) := by
  by_cases hn : 40 < n
  · have HO : Hid (lpB n L q = false) := lpB_no (fun h => by omega)
    go_enter Try.func35, Try.ntmps35
    have hn' : (40 : Int) < n := by omega
    clear hS hT hL
    go_wp2
    go_ret
    exact ⟨by rw [HO.out]; rfl, Below.refl _ _⟩
  · go_enter Try.func35, Try.ntmps35
    have hn' : (n : Int) ≤ 40 := by omega
    have HS : Hid (LpIn w ao n S L q) := hS
    have HT : Hid (ToldQ n L q) := hT
    have HL : Hid (∀ i, i < n → L i ≤ 1048576) := hL
    clear hS hT hL
    go_wp2_with fail
    go_loopw [3, 13] (fun s i wr => ∃ c : Nat, c ≤ n ∧ i = .int .i64 c ∧ s = .int .i64 (sumL L c) ∧ (∀ j, j < c → 3 ≤ L j) ∧ Below w.heap.size w wr) (fun _ i _ => n - (intOf i).toNat)
    case atStart => exact ⟨0, by omega, rfl, rfl, fun j hj => by omega, Below.refl _ _⟩
    case round =>
      obtain ⟨c, hc, rfl, rfl, h3, HB⟩ := hrel
      have H3 : Hid (∀ j, j < c → 3 ≤ L j) := h3
      clear h3
      have hsb := sumL_bound L 1048576 c (fun i hi => HL.out i (by omega))
      have hsI : (sumL L c : Int) ≤ 41943040 := by omega
      by_cases hcn : c < n
      · obtain ⟨A, off, rfl, hA, hcell, -⟩ := HS.out.step HB c hcn
        have hLc := HL.out c hcn
        have hcI : (c : Int) < n := by omega
        have hLI : (L c : Int) ≤ 1048576 := by omega
        have HBA := HB.alloc HB.size (.cells #[.slice (S c).1 (L c) (S c).2] 118)
        have G := Blk.new wr [.slice (S c).1 (L c) (S c).2] 118 rfl
        have g0 := G.c 0 rfl
        by_cases h2 : L c < 3
        · have HO : Hid (lpB n L q = false) := lpB_no (fun h => by have := h.2.1 c hcn; omega)
          have h2I : (L c : Int) < 3 := by omega
          clear HS HT HL H3 hsb G
          go_wp2
          go_ret
          exact ⟨by rw [HO.out]; rfl, HBA⟩
        · have h2I : (3 : Int) ≤ L c := by omega
          have hcb : (c : Int) ≤ 40 := by omega
          clear hsb G
          go_wp2
          go_roundw
          case rel => exact ⟨c + 1, by omega, by go_num, by show _ = Value.int _ ((sumL L c + L c : Nat) : Int); go_num, fun j hj => by
            rcases Nat.lt_or_ge j c with h | h
            · exact H3.out j h
            · obtain rfl : j = c := by omega
              omega, HBA⟩
          case measure => simp [intOf]; omega
      · obtain rfl : c = n := by omega
        by_cases hs : 200 < sumL L c
        · have HO : Hid (lpB c L q = false) := lpB_no (fun h => by have := h.2.2.1; omega)
          have hs' : (200 : Int) < sumL L c := by omega
          clear HS HT HL H3 hsb
          go_wp2
          go_ret
          exact ⟨by rw [HO.out]; rfl, HB⟩
        · have hs' : (sumL L c : Int) ≤ 200 := by omega
          clear hsb
          go_wp2_with fail
          go_loopw [31] (fun i wk => ∃ d : Nat, d ≤ c ∧ i = .int .i64 d ∧ (∀ j, j < d → rowB (L j) (q j) = true) ∧ Below w.heap.size w wk) (fun i _ => c - (intOf i).toNat)
          case atStart => exact ⟨0, by omega, rfl, fun j hj => by omega, HB⟩
          case round =>
            rename_i hrel
            obtain ⟨d, hd, rfl, hp, HB2⟩ := hrel
            have HP : Hid (∀ j, j < d → rowB (L j) (q j) = true) := hp
            clear hp HB
            by_cases hdn : d < c
            · obtain ⟨A, off, rfl, hA, hcell, hrow⟩ := HS.out.step HB2 d hdn
              have hdI : (d : Int) < c := by omega
              have HBA := HB2.alloc HB2.size (.cells #[.slice (S d).1 (L d) (S d).2] 118)
              have G := Blk.new wr [.slice (S d).1 (L d) (S d).2] 118 rfl
              have LR := fun w h => loopRight_any (S d).1 (L d) (S d).2 (q d) w h (HT.out d hdn) (HL.out d hdn)
              have g0 := G.c 0 rfl
              have HR := hrow.step ((Below.refl _ _).alloc (Nat.le_refl _) (.cells #[.slice (S d).1 (L d) (S d).2] 118))
              clear hrow G
              go_wp2_with fail
              refine (LR _ HR).mono ?_
              rintro e w1 ⟨rfl, hB⟩
              replace HBA := HBA.trans (hB.mono HBA.size)
              clear hB LR HR g0 HB2
              by_cases hk : rowB (L d) (q d) = true
              · rw [hk]
                have HK : Hid (rowB (L d) (q d) = true) := hk
                clear hk
                go_wp2
                go_roundw
                case rel => exact ⟨d + 1, by omega, by go_num, fun j hj => by
                  rcases Nat.lt_or_ge j d with h | h
                  · exact HP.out j h
                  · obtain rfl : j = d := by omega
                    exact HK.out, HBA⟩
                case measure => simp [intOf]; omega
              · have HO : Hid (lpB c L q = false) := lpB_no (fun h => hk (h.2.2.2 d hdn))
                rw [Bool.eq_false_iff.2 hk]
                clear hk
                go_wp2
                go_ret
                exact ⟨by rw [HO.out]; rfl, HBA⟩
            · obtain rfl : d = c := by omega
              have HO : Hid (lpB d L q = true) := by
                show _ = _
                unfold lpB
                exact decide_eq_true ⟨by omega, H3.out, by omega, HP.out⟩
              clear HP HS HT HL H3
              go_wp2
              go_ret
              exact ⟨by rw [HO.out]; rfl, HB2⟩
end Go.Proofs.Ytggfhpnflknhdaa

/- Rows of loops of points: copied, held against one another, counted; the law. -/
namespace Go.Proofs.Ytggfhpnflknhdaa
open Go.RowKit
set_option maxRecDepth 100000 in
set_option maxHeartbeats 2000000 in
theorem toLoop_any (ao : Option Addr) (m cap : Nat) (q : Qs) (hm : m ≤ 1048576) (w : World) (hS : PtIn w ao m q) : Calls Try.prog 68 #[.agg #[.slice ao m cap]] w (fun e w' => ∃ g, e = .returned (.agg #[.slice (some ⟨g, 0, none⟩) m m]) ∧ w.heap.size ≤ g ∧ w'.rowIs g 30 (m * 12) (fun i => .int .u64 (ptW q i)) ∧ Below w.heap.size w w') := by
  have HB : Below w.heap.size w (((w.alloc (.cells #[.slice ao m cap] 115)).alloc (.cells #[.slice none 0 0] 118)).alloc (.cells #[.slice none 0 0] 118)) := (((Below.refl _ w).alloc (Nat.le_refl _) _).alloc (by simp) _).alloc (by simp; omega) _
  have B0 := ((Blk.new w [.slice ao m cap] 115 rfl).alloc (.cells #[.slice none 0 0] 118)).alloc (.cells #[.slice none 0 0] 118)
  have B1 := (Blk.new (w.alloc (.cells #[.slice ao m cap] 115)) [.slice none 0 0] 118 (g := w.heap.size + 1) (by simp)).alloc (.cells #[.slice none 0 0] 118)
  have B2 := Blk.new ((w.alloc (.cells #[.slice ao m cap] 115)).alloc (.cells #[.slice none 0 0] 118)) [.slice none 0 0] 118 (g := w.heap.size + 1 + 1) (by simp)
  have HS := hS.step HB
  have hsz : (((w.alloc (.cells #[.slice ao m cap] 115)).alloc (.cells #[.slice none 0 0] 118)).alloc (.cells #[.slice none 0 0] 118)).heap.size = w.heap.size + 3 := by simp
  have TP := fun w h => toPointS_any ao m cap q hm w h
  clear hS
  go_enter Try.func68, Try.ntmps68
  have b0 := B0.c 0 rfl
  go_wp2_with fail
  refine (TP _ HS).mono ?_
  rintro e w1 ⟨g, rfl, hg, R, hB⟩
  rw [hsz] at hg
  replace B1 := B1.step hB; replace B2 := B2.step hB
  replace HB := HB.trans (hB.mono HB.size)
  clear hB TP B0 b0 HS hsz
  have c0 := B1.c 0 rfl; have f0 := B1.f 0 rfl; have l1 := B1.lt; have d0 := B2.c 0 rfl; have e0 := B2.f 0 rfl; have l2 := B2.lt
  have RN : ((w1.setCell ⟨w.heap.size + 1 + 1, 0, none⟩ (.slice (some ⟨g, 0, none⟩) m m)).setCell ⟨w.heap.size + 1, 0, none⟩ (.slice (some ⟨g, 0, none⟩) m m)).rowIs g 30 (m * 12) (fun i => .int .u64 (ptW q i)) := (R.setOther (by show g ≠ w.heap.size + 1 + 1; omega) _).setOther (by show g ≠ w.heap.size + 1; omega) _
  have HN : Below w.heap.size w ((w1.setCell ⟨w.heap.size + 1 + 1, 0, none⟩ (.slice (some ⟨g, 0, none⟩) m m)).setCell ⟨w.heap.size + 1, 0, none⟩ (.slice (some ⟨g, 0, none⟩) m m)) := Below.setCell (Below.setCell HB (by show w.heap.size ≤ w.heap.size + 1 + 1; omega) _) (by show w.heap.size ≤ w.heap.size + 1; omega) _
  clear R HB B1 B2
  go_wp2
  refine bodyPost_ret (v := .agg #[.slice (some ⟨g, 0, none⟩) m m]) (by simp [results, Try.results68, go_sem, c0]) rfl ?_
  exact ⟨g, rfl, by omega, RN, HN⟩
theorem Try.infoLoop : (Try.prog.info? 118).map (fun i => (i.zero, i.size, i.bytes)) = some (some (.agg #[.slice none 0 0]), 1, 24) := by kernel_rfl
theorem make_loops (n : Nat) (hn : n ≤ 1048576) (w : World) : (Instr.makeSlice 66 (.int .i64 (n : Int)) (.int .i64 (n : Int))).run Try.prog w = .ok (.slice (some ⟨w.heap.size, 0, none⟩) n n) (w.alloc (.cells (madeCells #[.slice none 0 0] n) 118)) := by
  obtain ⟨i, hi, hzz⟩ := Option.map_eq_some_iff.1 Try.infoLoop
  simp only [Prod.mk.injEq] at hzz
  obtain ⟨hz, hs, hb⟩ := hzz
  have hr := run_make (P := Try.prog) w 66 118 i (.agg #[.slice none 0 0]) Try.underlying66 hi hz .i64 .i64 n n (by omega) (Int.le_refl _) (by rw [hb]; omega) (by omega)
  simp only [Int.toNat_natCast, hs, Value.cells, Nat.mul_one] at hr
  exact hr
/-- So far the row holds what was copied, behind it nothing. -/
def cpL (S : Nat → Nat) (L : Nat → Nat) (c : Nat) (i : Nat) : Value := if i < c then .slice (some ⟨S i, 0, none⟩) (L i) (L i) else .slice none 0 0
set_option maxRecDepth 100000 in
set_option maxHeartbeats 2000000 in
theorem toLoopS_any (ao : Option Addr) (n cap : Nat) (S : Nat → Option Addr × Nat) (L : Nat → Nat) (q : Nat → Qs) (hn : n ≤ 1048576) (hL : ∀ i, i < n → L i ≤ 1048576) (w : World) (hS : LpIn w ao n S L q) : Calls Try.prog 34 #[.slice ao n cap] w (fun e w' => ∃ g S', e = .returned (.slice (some ⟨g, 0, none⟩) n n) ∧ LpIn w' (some ⟨g, 0, none⟩) n S' L q ∧ Below w.heap.size w w') := by
  have MK := make_loops n hn
  have HS : Hid (LpIn w ao n S L q) := hS
  have HL : Hid (∀ i, i < n → L i ≤ 1048576) := hL
  clear hS hL
  go_enter Try.func34, Try.ntmps34
  go_wp2_with fail
  have R0 := World.rowIs_made w (.slice none 0 0) n 118
  have B0 : Below w.heap.size w (w.alloc (.cells (madeCells #[.slice none 0 0] n) 118)) := (Below.refl _ _).alloc (Nat.le_refl _) _
  generalize w.alloc (.cells (madeCells #[.slice none 0 0] n) 118) = W1 at *
  have hnI : (n : Int) ≤ 1048576 := by omega
  clear MK
  go_loopw [4] (fun i wr => ∃ (c : Nat) (S' : Nat → Nat), c ≤ n ∧ i = .int .i64 c ∧ wr.rowIs w.heap.size 118 n (cpL S' L c) ∧ (∀ j, j < c → S' j ≠ w.heap.size ∧ wr.rowIs (S' j) 30 (L j * 12) (fun i => .int .u64 (ptW (q j) i))) ∧ Below w.heap.size w wr) (fun i _ => n - (intOf i).toNat)
  case atStart => exact ⟨0, fun _ => 0, by omega, rfl, R0.congr (fun i _ => by unfold cpL; simp), fun j hj => by omega, B0⟩
  case round =>
    clear R0 B0
    obtain ⟨c, S', hc, rfl, R, hp, HB⟩ := hrel
    have HP : Hid (∀ j, j < c → S' j ≠ w.heap.size ∧ wr.rowIs (S' j) 30 (L j * 12) (fun i => .int .u64 (ptW (q j) i))) := hp
    clear hp
    by_cases hcn : c < n
    · obtain ⟨A, off, rfl, hA, hcell, hrow⟩ := HS.out.step HB c hcn
      have hcI : (c : Int) < n := by omega
      have TL := fun w h => toLoop_any (S c).1 (L c) (S c).2 (q c) (HL.out c hcn) w h
      have hlr := R.lt
      go_wp2_with fail
      refine (TL _ hrow).mono ?_
      rintro e w1 ⟨g, rfl, hg, RG, hB⟩
      replace R := rowp_step R hB
      have HP2 : Hid (∀ j, j < c → S' j ≠ w.heap.size ∧ w1.rowIs (S' j) 30 (L j * 12) (fun i => .int .u64 (ptW (q j) i))) := fun j hj => ⟨(HP.out j hj).1, rowp_step (HP.out j hj).2 hB⟩
      replace HB := HB.trans (hB.mono HB.size)
      have o0 := R.cell (i := c) (by omega); have f0 := R.frozen c
      have RN : (w1.setCell ⟨w.heap.size, c, none⟩ (.slice (some ⟨g, 0, none⟩) (L c) (L c))).rowIs w.heap.size 118 n (cpL (fun j => if j = c then g else S' j) L (c + 1)) := (R.set c _).congr (fun i hi => by
        unfold cpL
        by_cases h : i = c
        · subst h; simp
        · rcases Nat.lt_or_ge i c with h' | h'
          · rw [if_neg h, if_pos h', if_pos (by omega)]; dsimp only; rw [if_neg h]
          · rw [if_neg h, if_neg (by omega), if_neg (by omega)])
      have HPN : Hid (∀ j, j < c + 1 → (if j = c then g else S' j) ≠ w.heap.size ∧ (w1.setCell ⟨w.heap.size, c, none⟩ (.slice (some ⟨g, 0, none⟩) (L c) (L c))).rowIs (if j = c then g else S' j) 30 (L j * 12) (fun i => .int .u64 (ptW (q j) i))) := fun j hj => by
        by_cases h : j = c
        · subst h
          rw [if_pos rfl]
          exact ⟨by omega, RG.setOther (by show g ≠ w.heap.size; omega) _⟩
        · rw [if_neg h]
          have := HP2.out j (by omega)
          exact ⟨this.1, this.2.setOther (by exact this.1) _⟩
      have HN : Below w.heap.size w (w1.setCell ⟨w.heap.size, c, none⟩ (.slice (some ⟨g, 0, none⟩) (L c) (L c))) := Below.setCell HB (Nat.le_refl _) _
      clear hB hcell hrow hA R HB RG HP HP2 TL hlr hg
      go_wp2
      go_roundw
      case rel => exact ⟨c + 1, _, by omega, by go_num, RN, HPN.out, HN⟩
      case measure => simp [intOf]; omega
    · obtain rfl : c = n := by omega
      have LI : Hid (LpIn wr (some ⟨w.heap.size, 0, none⟩) c (fun i => (some ⟨S' i, 0, none⟩, L i)) L q) := fun i hi => by
        refine ⟨w.heap.size, 0, rfl, R.lt, ?_, ptIn_row (HP.out i hi).2⟩
        rw [Nat.zero_add, R.cell hi]
        unfold cpL
        rw [if_pos hi]
      clear R HS HP HL
      go_wp2
      go_ret
      exact ⟨_, _, rfl, LI.out, HB⟩
set_option maxRecDepth 100000 in
set_option maxHeartbeats 2000000 in
theorem eqLoop_any (ao bo : Option Addr) (m ca cb : Nat) (q : Qs) (hm : m ≤ 1048576) (w : World) (hA : PtIn w ao m q) (hC : PtIn w bo m q) : Calls Try.prog 70 #[.agg #[.slice ao m ca], .agg #[.slice bo m cb]] w (BoolP true w) := by
  have HB : Below w.heap.size w ((w.alloc (.cells #[.slice ao m ca] 118)).alloc (.cells #[.slice bo m cb] 118)) := ((Below.refl _ w).alloc (Nat.le_refl _) _).alloc (by simp) _
  have B0 := (Blk.new w [.slice ao m ca] 118 rfl).alloc (.cells #[.slice bo m cb] 118)
  have B1 := Blk.new (w.alloc (.cells #[.slice ao m ca] 118)) [.slice bo m cb] 118 (g := w.heap.size + 1) (by simp)
  have HA := hA.step HB
  have HC := hC.step HB
  have EP := fun w h h' => eqPointS_any ao bo m ca cb q hm w h h'
  clear hA hC
  go_enter Try.func70, Try.ntmps70
  have b0 := B0.c 0 rfl
  have b1 := B1.c 0 rfl
  go_wp2_with fail
  refine (EP _ HA HC).mono ?_
  rintro e w1 ⟨rfl, hB⟩
  replace HB := HB.trans (hB.mono HB.size)
  clear hB EP HA HC B0 B1 b0 b1
  go_wp2
  go_ret
  exact ⟨rfl, HB⟩
set_option maxRecDepth 100000 in
set_option maxHeartbeats 2000000 in
theorem eqLoopS_any (ao bo : Option Addr) (n ca cb : Nat) (S S' : Nat → Option Addr × Nat) (L : Nat → Nat) (q : Nat → Qs) (hn : n ≤ 1048576) (hL : ∀ i, i < n → L i ≤ 1048576) (w : World) (hA : LpIn w ao n S L q) (hC : LpIn w bo n S' L q) : Calls Try.prog 36 #[.slice ao n ca, .slice bo n cb] w (BoolP true w) := by
  have HA : Hid (LpIn w ao n S L q) := hA
  have HC : Hid (LpIn w bo n S' L q) := hC
  have HL : Hid (∀ i, i < n → L i ≤ 1048576) := hL
  have hnI : (n : Int) ≤ 1048576 := by omega
  clear hA hC hL
  go_enter Try.func36, Try.ntmps36
  go_wp2_with fail
  go_loopw [5] (fun i wr => ∃ c : Nat, c ≤ n ∧ i = .int .i64 c ∧ Below w.heap.size w wr) (fun i _ => n - (intOf i).toNat)
  case atStart => exact ⟨0, by omega, rfl, Below.refl _ _⟩
  case round =>
    obtain ⟨c, hc, rfl, HB⟩ := hrel
    by_cases hcn : c < n
    · obtain ⟨A, off, rfl, hA, q0, hra⟩ := HA.out.step HB c hcn
      obtain ⟨B, of2, rfl, hB', r0, hrb⟩ := HC.out.step HB c hcn
      have hcI : (c : Int) < n := by omega
      have EL := fun w h h' => eqLoop_any (S c).1 (S' c).1 (L c) (S c).2 (S' c).2 (q c) (HL.out c hcn) w h h'
      have KS : (fun w' => w'.cell? ⟨A, off + c, none⟩ = some (.slice (S c).1 (L c) (S c).2) ∧ w'.cell? ⟨B, of2 + c, none⟩ = some (.slice (S' c).1 (L c) (S' c).2)) wr := ⟨q0, r0⟩
      go_wp2_with fail
      go_region_held3 (fun w' => w'.cell? ⟨A, off + c, none⟩ = some (.slice (S c).1 (L c) (S c).2) ∧ w'.cell? ⟨B, of2 + c, none⟩ = some (.slice (S' c).1 (L c) (S' c).2)) (first | (exact KS) | (exact KS'))
        (first
          | (go_at_call 70; refine (EL _ (by first | exact hra | exact hra.drew) (by first | exact hrb | exact hrb.drew)).mono ?_; rintro e w1 ⟨rfl, hB⟩; have KS' : (fun w' => w'.cell? ⟨A, off + c, none⟩ = some (.slice (S c).1 (L c) (S c).2) ∧ w'.cell? ⟨B, of2 + c, none⟩ = some (.slice (S' c).1 (L c) (S' c).2)) w1 := ⟨(hB.cell (p := ⟨A, _, none⟩) hA).trans q0, (hB.cell (p := ⟨B, _, none⟩) hB').trans r0⟩; (first | (have HB2 := HB.trans (hB.mono HB.size)) | (have HB2 := HB.drew.trans (hB.mono HB.drew.size))); clear hB))
      all_goals clear HB KS q0 r0 hra hrb EL
      all_goals go_wp2
      all_goals go_roundw
      case rel => exact ⟨c + 1, by omega, by go_num, HB2⟩
      case measure => simp [intOf]; omega
    · obtain rfl : c = n := by omega
      clear HA HC HL
      go_wp2
      go_ret
      exact ⟨rfl, HB⟩
theorem szPointS_any (ao : Option Addr) (m cap : Nat) (l : Int) (h0 : 0 ≤ l) (h1 : l ≤ 1048576) (hm : m ≤ 9223372036854775807) (w : World) : Calls Try.prog 113 #[.slice ao m cap, .int .i64 l] w (VP (.int .i64 (if (m : Int) ≤ l then l - m else -1)) w) := by
  have hmI : (m : Int) ≤ 9223372036854775807 := by omega
  by_cases h : (m : Int) ≤ l
  · rw [if_pos h]
    go_enter Try.func113, Try.ntmps113
    go_wp2
    go_ret
    exact ⟨rfl, Below.refl _ _⟩
  · rw [if_neg h]
    have h' : l < (m : Int) := by omega
    go_enter Try.func113, Try.ntmps113
    go_wp2
    go_ret
    exact ⟨rfl, Below.refl _ _⟩
theorem szLoop_any (ao : Option Addr) (m cap : Nat) (l : Int) (h0 : 0 ≤ l) (h1 : l ≤ 1048576) (hm : m ≤ 9223372036854775807) (w : World) : Calls Try.prog 67 #[.agg #[.slice ao m cap], .int .i64 l] w (VP (.int .i64 (if (m : Int) ≤ l then l - m else -1)) w) := by
  have HB : Below w.heap.size w (w.alloc (.cells #[.slice ao m cap] 115)) := (Below.refl _ w).alloc (Nat.le_refl _) _
  have B0 := Blk.new w [.slice ao m cap] 115 rfl
  have SP := szPointS_any ao m cap l h0 h1 hm
  go_enter Try.func67, Try.ntmps67
  have b0 := B0.c 0 rfl
  by_cases h : (m : Int) ≤ l
  · rw [if_pos h] at SP ⊢
    go_wp2_with fail
    refine (SP _).mono ?_
    rintro e w1 ⟨rfl, hB⟩
    replace HB := HB.trans (hB.mono HB.size)
    clear hB SP B0 b0
    have h2 : 0 ≤ l - (m : Int) := by omega
    go_wp2
    go_ret
    exact ⟨rfl, HB⟩
  · rw [if_neg h] at SP ⊢
    go_wp2_with fail
    refine (SP _).mono ?_
    rintro e w1 ⟨rfl, hB⟩
    replace HB := HB.trans (hB.mono HB.size)
    clear hB SP B0 b0
    go_wp2
    go_ret
    exact ⟨rfl, HB⟩
/-- What is left of the count, if it is not below 0. -/
def SzP (n : Nat) (L : Nat → Nat) (w : World) (e : Ending) (w' : World) : Prop := ∃ z : Int, e = .returned (.int .i64 z) ∧ -1 ≤ z ∧ z ≤ 1048576 ∧ (0 ≤ z → n ≤ 1048576 ∧ ∀ i, i < n → L i ≤ 1048576) ∧ Below w.heap.size w w'
set_option maxRecDepth 100000 in
set_option maxHeartbeats 2000000 in
theorem szLoopS_any (ao : Option Addr) (n cap : Nat) (S : Nat → Option Addr × Nat) (L : Nat → Nat) (q : Nat → Qs) (hn : n ≤ 9223372036854775807) (hL : ∀ i, i < n → L i ≤ 9223372036854775807) (w : World) (hS : LpIn w ao n S L q) : Calls Try.prog 32 #[.slice ao n cap, .int .i64 1048576] w (SzP n L w) := by
  have hnI : (n : Int) ≤ 9223372036854775807 := by omega
  by_cases h : n ≤ 1048576
  · have h' : (n : Int) ≤ 1048576 := by omega
    have HS : Hid (LpIn w ao n S L q) := hS
    have HL : Hid (∀ i, i < n → L i ≤ 9223372036854775807) := hL
    clear hS hL
    go_enter Try.func32, Try.ntmps32
    go_wp2_with fail
    go_loopw [1, 5] (fun s i wr => ∃ (c : Nat) (l : Int), c ≤ n ∧ i = .int .i64 c ∧ s = .int .i64 l ∧ 0 ≤ l ∧ l ≤ 1048576 ∧ (∀ j, j < c → L j ≤ 1048576) ∧ Below w.heap.size w wr) (fun _ i _ => n - (intOf i).toNat)
    case atStart => exact ⟨0, _, by omega, rfl, rfl, by omega, by omega, fun j hj => by omega, Below.refl _ _⟩
    case round =>
      obtain ⟨c, l, hc, rfl, rfl, l0, l1, hall, HB⟩ := hrel
      have HA : Hid (∀ j, j < c → L j ≤ 1048576) := hall
      clear hall
      by_cases hcn : c < n
      · obtain ⟨A, off, rfl, hA, hcell, -⟩ := HS.out.step HB c hcn
        have hcI : (c : Int) < n := by omega
        have SL := szLoop_any (S c).1 (L c) (S c).2 l l0 l1 (HL.out c hcn)
        go_wp2_with fail
        refine (SL _).mono ?_
        rintro e w1 ⟨rfl, hB⟩
        replace HB := HB.trans (hB.mono HB.size)
        clear hB SL hcell hA
        by_cases hl : (L c : Int) ≤ l
        · rw [if_pos hl]
          have hl2 : 0 ≤ l - (L c : Int) := by omega
          go_wp2
          go_roundw
          case rel => exact ⟨c + 1, _, by omega, by go_num, rfl, by omega, by omega, fun j hj => by
            rcases Nat.lt_or_ge j c with h | h
            · exact HA.out j h
            · obtain rfl : j = c := by omega
              omega, HB⟩
          case measure => simp [intOf]; omega
        · rw [if_neg hl]
          go_wp2
          go_ret
          exact ⟨-1, rfl, by omega, by omega, fun h => by omega, HB⟩
      · obtain rfl : c = n := by omega
        clear HS HL
        go_wp2
        go_ret
        exact ⟨l, rfl, by omega, l1, fun _ => ⟨h, HA.out⟩, HB⟩
  · have h' : (1048576 : Int) < n := by omega
    clear hS hL
    go_enter Try.func32, Try.ntmps32
    go_wp2
    go_ret
    exact ⟨-1, rfl, by omega, by omega, fun h => by omega, Below.refl _ _⟩
set_option maxRecDepth 100000 in
set_option maxHeartbeats 2000000 in
theorem lawLoopsOk_any (ao : Option Addr) (n cap : Nat) (S : Nat → Option Addr × Nat) (L : Nat → Nat) (q : Nat → Qs) (hn : n ≤ 9223372036854775807) (hL : ∀ i, i < n → L i ≤ 9223372036854775807) (hT : ToldQ n L q) (w : World) (hS : LpIn w ao n S L q) : Calls Try.prog 8 #[.slice ao n cap] w (BoolP true w) := by
  have SZ := szLoopS_any ao n cap S L q hn hL w hS
  go_enter Try.func8, Try.ntmps8
  go_wp2_with fail
  refine SZ.mono ?_
  rintro e w1 ⟨z, rfl, z0, z1, hz, hB⟩
  have HB := hB
  have HS := hS.step hB
  clear hB SZ hS hL hn
  by_cases hz0 : 0 ≤ z
  · obtain ⟨hn, hL⟩ := hz hz0
    have T1 := fun w => toLoopS_any ao n cap S L q hn hL w
    have SP := fun ao S w h => specLoopsOk_any ao n n S L q w h hT hL
    have IM := fun ao S w h => implLoopsOk_any ao n n S L q w h hT hL
    have EQ := fun ao bo S S' w h h' => eqLoopS_any ao bo n n n S S' L q hn hL w h h'
    generalize lpB n L q = o at *
    have hoo : (o == o) = true := by simp
    clear hz hT hL
    go_wp2_with fail
    refine (T1 _ HS).mono ?_
    rintro e w2 ⟨g1, S1, rfl, R1, hB⟩
    replace HB := HB.trans (hB.mono HB.size)
    replace HS := HS.step hB
    clear hB
    go_wp2_with fail
    refine (SP _ _ _ R1).mono ?_
    rintro e w3 ⟨rfl, hB⟩
    replace HB := HB.trans (hB.mono HB.size)
    replace HS := HS.step hB
    clear hB R1 SP
    go_wp2_with fail
    refine (T1 _ HS).mono ?_
    rintro e w4 ⟨g2, S2, rfl, R2, hB⟩
    replace HB := HB.trans (hB.mono HB.size)
    replace HS := HS.step hB
    clear hB
    go_wp2_with fail
    refine (IM _ _ _ R2).mono ?_
    rintro e w5 ⟨rfl, hB⟩
    replace HB := HB.trans (hB.mono HB.size)
    replace HS := HS.step hB
    replace R2 := R2.step hB
    clear hB IM
    go_wp2_with fail
    refine (T1 _ HS).mono ?_
    rintro e w6 ⟨g3, S3, rfl, R3, hB⟩
    replace HB := HB.trans (hB.mono HB.size)
    replace R2 := R2.step hB
    clear hB HS T1
    go_wp2_with fail
    refine (EQ _ _ _ _ _ R2 R3).mono ?_
    rintro e w7 ⟨rfl, hB⟩
    replace HB := HB.trans (hB.mono HB.size)
    clear hB R2 R3 EQ
    go_wp2
    go_ret
    exact ⟨rfl, HB⟩
  · clear hz hT
    have hz' : z < 0 := by omega
    go_wp2
    go_ret
    exact ⟨rfl, HB⟩
end Go.Proofs.Ytggfhpnflknhdaa

/- What the row of a law asks of the program as a whole, each by itself. -/
namespace Go.Proofs.Ytggfhpnflknhdaa
open Go.ChangeShapes Go.WideShapes Go.ChangeAt Go.RowKit Go.Joins
theorem jn_laid : laidOutB Try.pinned.checked.prog = true := by kernel_rfl
theorem jn_maps : mapsRowed Try.pinned.checked.prog = true := by kernel_rfl
theorem jn_enter : Try.pinned.checked.prog.mayEnter = true := by kernel_rfl
theorem jn_heard : Try.pinned.checked.prog.stopsHeard = true := by kernel_rfl
end Go.Proofs.Ytggfhpnflknhdaa
