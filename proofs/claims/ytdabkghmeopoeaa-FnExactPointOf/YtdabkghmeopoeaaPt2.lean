/- A spot as a point: the walks of the model's point of numbers. -/
import Derived.Test.YtdabkghmeopoeaaPt
namespace Go.Proofs.Ytdabkghmeopoeaa
open Go.RowKit
theorem ret_bool {a b : Bool} (h : b = a) : Ending.returned (.bool a) = .returned (.bool b) := by rw [h]
def small (z : Int) : Bool := decide ((z.natAbs : Int) < 1208925819614629174706176)
theorem bits_small {v : Int} {b : Nat} (h : BitsOf v b) : b ≤ 80 ↔ v < 1208925819614629174706176 := by
  obtain ⟨h0, h1, h2⟩ := h
  have e : (2 : Int) ^ 80 = 1208925819614629174706176 := by decide
  constructor
  · intro hb
    have := ipow2_mono hb
    omega
  · intro hv
    apply Decidable.byContradiction
    intro hb
    rcases h2 with h2 | h2
    · omega
    · have := ipow2_mono (show 80 ≤ b - 1 by omega)
      omega
set_option maxRecDepth 100000 in
set_option maxHeartbeats 2000000 in
theorem l3Small_any (s1 : Bool) (o1 : Option Addr) (n1 c1 : Nat) (d1 : List Int) (s2 : Bool) (o2 : Option Addr) (n2 c2 : Nat) (d2 : List Int) (s3 : Bool) (o3 : Option Addr) (n3 c3 : Nat) (d3 : List Int) (x y z : Int) (k : Nat) (hk : k ≤ 100000) (w : World) (N1 : IsNum w s1 o1 n1 c1 d1 x k) (N2 : IsNum w s2 o2 n2 c2 d2 y k) (N3 : IsNum w s3 o3 n3 c3 d3 z k) :
    Calls Try.prog 101 #[.agg #[.bool s1, .slice o1 n1 c1, .bool s2, .slice o2 n2 c2, .bool s3, .slice o3 n3 c3]] w (BoolP (small x && small y && small z) w) := by
  have B0 := Blk.new w [.bool s1, .slice o1 n1 c1, .bool s2, .slice o2 n2 c2, .bool s3, .slice o3 n3 c3] 98 rfl
  have HB0 : Below w.heap.size w (w.alloc (.cells #[.bool s1, .slice o1 n1 c1, .bool s2, .slice o2 n2 c2, .bool s3, .slice o3 n3 c3] 98)) := (Below.refl _ _).alloc (Nat.le_refl _) _
  replace N1 := N1.below HB0
  replace N2 := N2.below HB0
  replace N3 := N3.below HB0
  by_cases h1 : small x = true
  · by_cases h2 : small y = true
    · by_cases h3 : small z = true
      · go_enter Try.func101, Try.ntmps101
        go_wp2_with fail
        refine (bits_any o1 n1 c1 d1 _ N1.len N1.nrm N1.rd (by have := N1.le; omega)).mono ?_
        rintro e w1 ⟨b1, rfl, hb1, hB⟩
        rw [N1.val] at hb1
        have q1 : (b1 : Int) ≤ 80 := by have := bits_small hb1; have := h1; unfold small at this; simp at this ⊢; omega
        have HB1 : Below w.heap.size w w1 := HB0.trans (hB.mono HB0.size)
        replace B0 := B0.step hB
        replace N1 := N1.below hB
        replace N2 := N2.below hB
        replace N3 := N3.below hB
        clear hB hb1
        have e0 := B0.c 0 rfl; have e1 := B0.c 1 rfl; have e2 := B0.c 2 rfl; have e3 := B0.c 3 rfl; have e4 := B0.c 4 rfl; have e5 := B0.c 5 rfl; have elt := B0.lt
        go_wp2_with fail
        refine (bits_any o2 n2 c2 d2 _ N2.len N2.nrm N2.rd (by have := N2.le; omega)).mono ?_
        rintro e w2 ⟨b2, rfl, hb2, hB⟩
        rw [N2.val] at hb2
        have q2 : (b2 : Int) ≤ 80 := by have := bits_small hb2; have := h2; unfold small at this; simp at this ⊢; omega
        have HB2 : Below w.heap.size w w2 := HB1.trans (hB.mono HB1.size)
        replace B0 := B0.step hB
        replace N1 := N1.below hB
        replace N2 := N2.below hB
        replace N3 := N3.below hB
        clear e0 e1 e2 e3 e4 e5 elt
        clear hB hb2
        have e0 := B0.c 0 rfl; have e1 := B0.c 1 rfl; have e2 := B0.c 2 rfl; have e3 := B0.c 3 rfl; have e4 := B0.c 4 rfl; have e5 := B0.c 5 rfl; have elt := B0.lt
        go_wp2_with fail
        refine (bits_any o3 n3 c3 d3 _ N3.len N3.nrm N3.rd (by have := N3.le; omega)).mono ?_
        rintro e w3 ⟨b3, rfl, hb3, hB⟩
        rw [N3.val] at hb3
        have q3 : (b3 : Int) ≤ 80 := by have := bits_small hb3; have := h3; unfold small at this; simp at this ⊢; omega
        have HB3 : Below w.heap.size w w3 := HB2.trans (hB.mono HB2.size)
        clear e0 e1 e2 e3 e4 e5 elt
        clear hB hb3
        go_wp2
        go_ret
        exact ⟨ret_bool (by simp [h1, h2, h3]), HB3⟩
      · have h3 := Bool.eq_false_iff.2 h3
        go_enter Try.func101, Try.ntmps101
        go_wp2_with fail
        refine (bits_any o1 n1 c1 d1 _ N1.len N1.nrm N1.rd (by have := N1.le; omega)).mono ?_
        rintro e w1 ⟨b1, rfl, hb1, hB⟩
        rw [N1.val] at hb1
        have q1 : (b1 : Int) ≤ 80 := by have := bits_small hb1; have := h1; unfold small at this; simp at this ⊢; omega
        have HB1 : Below w.heap.size w w1 := HB0.trans (hB.mono HB0.size)
        replace B0 := B0.step hB
        replace N1 := N1.below hB
        replace N2 := N2.below hB
        replace N3 := N3.below hB
        clear hB hb1
        have e0 := B0.c 0 rfl; have e1 := B0.c 1 rfl; have e2 := B0.c 2 rfl; have e3 := B0.c 3 rfl; have e4 := B0.c 4 rfl; have e5 := B0.c 5 rfl; have elt := B0.lt
        go_wp2_with fail
        refine (bits_any o2 n2 c2 d2 _ N2.len N2.nrm N2.rd (by have := N2.le; omega)).mono ?_
        rintro e w2 ⟨b2, rfl, hb2, hB⟩
        rw [N2.val] at hb2
        have q2 : (b2 : Int) ≤ 80 := by have := bits_small hb2; have := h2; unfold small at this; simp at this ⊢; omega
        have HB2 : Below w.heap.size w w2 := HB1.trans (hB.mono HB1.size)
        replace B0 := B0.step hB
        replace N1 := N1.below hB
        replace N2 := N2.below hB
        replace N3 := N3.below hB
        clear e0 e1 e2 e3 e4 e5 elt
        clear hB hb2
        have e0 := B0.c 0 rfl; have e1 := B0.c 1 rfl; have e2 := B0.c 2 rfl; have e3 := B0.c 3 rfl; have e4 := B0.c 4 rfl; have e5 := B0.c 5 rfl; have elt := B0.lt
        go_wp2_with fail
        refine (bits_any o3 n3 c3 d3 _ N3.len N3.nrm N3.rd (by have := N3.le; omega)).mono ?_
        rintro e w3 ⟨b3, rfl, hb3, hB⟩
        rw [N3.val] at hb3
        have q3 : decide ((b3 : Int) ≤ 80) = false := by have := bits_small hb3; have := h3; unfold small at this; simp at this ⊢; omega
        have HB3 : Below w.heap.size w w3 := HB2.trans (hB.mono HB2.size)
        clear e0 e1 e2 e3 e4 e5 elt
        clear hB hb3
        go_wp2
        go_ret
        exact ⟨ret_bool (by simp [h1, h2, h3]; try (simp at q3; omega)), HB3⟩
    · have h2 := Bool.eq_false_iff.2 h2
      go_enter Try.func101, Try.ntmps101
      go_wp2_with fail
      refine (bits_any o1 n1 c1 d1 _ N1.len N1.nrm N1.rd (by have := N1.le; omega)).mono ?_
      rintro e w1 ⟨b1, rfl, hb1, hB⟩
      rw [N1.val] at hb1
      have q1 : (b1 : Int) ≤ 80 := by have := bits_small hb1; have := h1; unfold small at this; simp at this ⊢; omega
      have HB1 : Below w.heap.size w w1 := HB0.trans (hB.mono HB0.size)
      replace B0 := B0.step hB
      replace N1 := N1.below hB
      replace N2 := N2.below hB
      replace N3 := N3.below hB
      clear hB hb1
      have e0 := B0.c 0 rfl; have e1 := B0.c 1 rfl; have e2 := B0.c 2 rfl; have e3 := B0.c 3 rfl; have e4 := B0.c 4 rfl; have e5 := B0.c 5 rfl; have elt := B0.lt
      go_wp2_with fail
      refine (bits_any o2 n2 c2 d2 _ N2.len N2.nrm N2.rd (by have := N2.le; omega)).mono ?_
      rintro e w2 ⟨b2, rfl, hb2, hB⟩
      rw [N2.val] at hb2
      have q2 : decide ((b2 : Int) ≤ 80) = false := by have := bits_small hb2; have := h2; unfold small at this; simp at this ⊢; omega
      have HB2 : Below w.heap.size w w2 := HB1.trans (hB.mono HB1.size)
      clear e0 e1 e2 e3 e4 e5 elt
      clear hB hb2
      go_wp2
      go_ret
      exact ⟨ret_bool (by simp [h1, h2]; try (simp at q2; omega)), HB2⟩
  · have h1 := Bool.eq_false_iff.2 h1
    go_enter Try.func101, Try.ntmps101
    go_wp2_with fail
    refine (bits_any o1 n1 c1 d1 _ N1.len N1.nrm N1.rd (by have := N1.le; omega)).mono ?_
    rintro e w1 ⟨b1, rfl, hb1, hB⟩
    rw [N1.val] at hb1
    have q1 : decide ((b1 : Int) ≤ 80) = false := by have := bits_small hb1; have := h1; unfold small at this; simp at this ⊢; omega
    have HB1 : Below w.heap.size w w1 := HB0.trans (hB.mono HB0.size)
    clear hB hb1
    go_wp2
    go_ret
    exact ⟨ret_bool (by simp [h1]; try (simp at q1; omega)), HB1⟩
end Go.Proofs.Ytdabkghmeopoeaa
