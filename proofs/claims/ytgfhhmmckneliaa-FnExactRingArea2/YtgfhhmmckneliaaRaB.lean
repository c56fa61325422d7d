/- Areas of rings: both sides, and the law. -/
import Derived.Test.YtgfhhmmckneliaaRaA
namespace Go.Proofs.Ytgfhhmmckneliaa
open Go.RowKit
/-- Twice the area of a ring that is right. -/
def raV (n : Nat) (p : Ps) : Int := if rgF n p = 0 then arA n p n else 0
set_option maxRecDepth 100000 in
set_option maxHeartbeats 4000000 in
theorem implRingArea2_any (ao : Option Addr) (n cap : Nat) (p : Ps) (hn : n ≤ 1048576) (hcap : n ≤ cap) (hcap2 : cap ≤ 9223372036854775807) (w : World) (hS : SpIn w ao n p) : Calls Try.prog 14 #[.agg #[.slice ao n cap]] w (VP (.int .i64 (raV n p)) w) := by
  have HB : Below w.heap.size w (w.alloc (.cells #[.slice ao n cap] 29)) := (Below.refl _ w).alloc (Nat.le_refl _) _
  have B0 := Blk.new w [.slice ao n cap] 29 rfl
  have b0 := B0.c 0 rfl
  have RF := fun w h => ringRight_any ao n cap p hn hcap hcap2 w h
  have HS := hS.step HB
  clear hS
  go_enter Try.func14, Try.ntmps14
  go_upto_region 1 with fail
  generalize (w.alloc (.cells #[.slice ao n cap] 29)) = W at *
  by_cases h0 : rgF n p = 0
  · have HO : Hid (raV n p = arA n p n) := by show _ = _; unfold raV; rw [if_pos h0]
    obtain ⟨h3, h12, hok, _⟩ := rgF_ok h0
    have AR := fun w h => area2_any ao n cap p h12 hok w h
    rw [h0] at RF
    clear h0
    go_wp2_with fail
    refine (RF _ HS).mono ?_
    rintro e w1 ⟨rfl, hB⟩
    replace HB := HB.trans (hB.mono HB.size); replace HS := HS.step hB; replace B0 := B0.step hB
    clear hB RF b0
    have b0 := B0.c 0 rfl
    go_wp2_with fail
    refine (AR _ HS).mono ?_
    rintro e w2 ⟨rfl, hB⟩
    replace HB := HB.trans (hB.mono HB.size)
    clear hB AR b0 HS B0 hok
    go_wp2
    go_ret
    exact ⟨by rw [HO.out]; rfl, HB⟩
  · have HO : Hid (raV n p = 0) := by show _ = _; unfold raV; rw [if_neg h0]
    have d0 : (rgF n p == 0) = false := beq_eq_false_iff_ne.2 h0
    rw [d0] at RF
    clear h0 d0
    go_wp2_with fail
    refine (RF _ HS).mono ?_
    rintro e w1 ⟨rfl, hB⟩
    replace HB := HB.trans (hB.mono HB.size)
    clear hB RF b0 HS B0
    go_wp2
    go_ret
    exact ⟨by rw [HO.out]; rfl, HB⟩
set_option maxRecDepth 100000 in
set_option maxHeartbeats 4000000 in
theorem specRingArea2_any (ao : Option Addr) (n cap : Nat) (p : Ps) (hn : n ≤ 1048576) (w : World) (hS : SpIn w ao n p) : Calls Try.prog 13 #[.agg #[.slice ao n cap]] w (VP (.int .i64 (raV n p)) w) := by
  have HB : Below w.heap.size w (w.alloc (.cells #[.slice ao n cap] 29)) := (Below.refl _ w).alloc (Nat.le_refl _) _
  have B0 := Blk.new w [.slice ao n cap] 29 rfl
  have b0 := B0.c 0 rfl
  have RF := fun w h => l5Ok_any ao n cap p hn w h
  have HS := hS.step HB
  clear hS
  go_enter Try.func13, Try.ntmps13
  go_upto_region 1 with fail
  generalize (w.alloc (.cells #[.slice ao n cap] 29)) = W at *
  by_cases h0 : rgF n p = 0
  · have HO : Hid (raV n p = arA n p n) := by show _ = _; unfold raV; rw [if_pos h0]
    obtain ⟨h3, h12, hok, _⟩ := rgF_ok h0
    have AR := fun w h => l5Area2_any ao n cap p h12 hok w h
    rw [h0] at RF
    clear h0
    go_wp2_with fail
    refine (RF _ HS).mono ?_
    rintro e w1 ⟨rfl, hB⟩
    replace HB := HB.trans (hB.mono HB.size); replace HS := HS.step hB; replace B0 := B0.step hB
    clear hB RF b0
    have b0 := B0.c 0 rfl
    go_wp2_with fail
    refine (AR _ HS).mono ?_
    rintro e w2 ⟨rfl, hB⟩
    replace HB := HB.trans (hB.mono HB.size)
    clear hB AR b0 HS B0 hok
    go_wp2
    go_ret
    exact ⟨by rw [HO.out]; rfl, HB⟩
  · have HO : Hid (raV n p = 0) := by show _ = _; unfold raV; rw [if_neg h0]
    have d0 : (rgF n p == 0) = false := beq_eq_false_iff_ne.2 h0
    rw [d0] at RF
    clear h0 d0
    go_wp2_with fail
    refine (RF _ HS).mono ?_
    rintro e w1 ⟨rfl, hB⟩
    replace HB := HB.trans (hB.mono HB.size)
    clear hB RF b0 HS B0
    go_wp2
    go_ret
    exact ⟨by rw [HO.out]; rfl, HB⟩
set_option maxRecDepth 100000 in
set_option maxHeartbeats 2000000 in
theorem lawRingArea2_any (ao : Option Addr) (n cap : Nat) (p : Ps) (hn : n ≤ 9223372036854775807) (w : World) (hS : SpIn w ao n p) : Calls Try.prog 4 #[.agg #[.slice ao n cap]] w (BoolP true w) := by
  have B0 := Blk.new w [.slice ao n cap] 24 rfl
  have HB : Below w.heap.size w (w.alloc (.cells #[.slice ao n cap] 24)) := (Below.refl _ w).alloc (Nat.le_refl _) _
  have HS := hS.step HB
  have b0 := B0.c 0 rfl
  have SZ := szRing_any ao n cap 1048576 (by omega) (by omega) hn
  clear hS
  go_enter Try.func4, Try.ntmps4
  go_upto_region 1 with fail
  generalize w.alloc (.cells #[.slice ao n cap] 24) = W at *
  by_cases hs : n ≤ 1048576
  · rw [if_pos (by omega)] at SZ
    have hsI : (n : Int) ≤ 1048576 := by omega
    go_wp2_with fail
    refine (SZ _).mono ?_
    rintro e w1 ⟨rfl, hB⟩
    replace HB := HB.trans (hB.mono HB.size); replace HS := HS.step hB; replace B0 := B0.step hB
    clear hB SZ b0
    have T1 := fun w h => toRing_any ao n cap p hs w h
    have SP := fun ao w h => specRingArea2_any ao n n p hs w h
    have IM := fun ao w h => implRingArea2_any ao n n p hs (Nat.le_refl _) (by omega) w h
    have EQ := fun ao bo w h h' => eqRing_any ao bo n n n p hs w h h'
    generalize raV n p = o at *
    have hoo : (o == o) = true := by simp
    have hz : (0 : Int) ≤ 1048576 - n := by omega
    have b0 := B0.c 0 rfl
    go_wp2_with fail
    refine (T1 _ HS).mono ?_
    rintro e w2 ⟨g1, rfl, _, R1, hB⟩
    replace HB := HB.trans (hB.mono HB.size); replace HS := HS.step hB; replace B0 := B0.step hB
    clear hB b0
    have R1' := spIn_row R1
    clear R1
    go_wp2_with fail
    refine (SP _ _ R1').mono ?_
    rintro e w3 ⟨rfl, hB⟩
    replace HB := HB.trans (hB.mono HB.size); replace HS := HS.step hB; replace B0 := B0.step hB
    clear hB SP R1'
    have b0 := B0.c 0 rfl
    go_wp2_with fail
    refine (T1 _ HS).mono ?_
    rintro e w4 ⟨g2, rfl, _, R2, hB⟩
    replace HB := HB.trans (hB.mono HB.size); replace HS := HS.step hB; replace B0 := B0.step hB
    have R2' := spIn_row R2
    have B5 := Blk.new w4 [.slice (some ⟨g2, 0, none⟩) n n] 29 rfl
    have hB6 := (Below.refl w4.heap.size w4).alloc (Nat.le_refl _) (.cells #[.slice (some ⟨g2, 0, none⟩) n n] 29)
    replace HB := HB.trans (hB6.mono HB.size); replace HS := HS.step hB6; replace B0 := B0.step hB6; replace R2' := R2'.step hB6
    clear hB hB6 b0 R2
    have c0 := B5.c 0 rfl
    go_wp2_with fail
    generalize w4.alloc (.cells #[.slice (some ⟨g2, 0, none⟩) n n] 29) = W5 at *
    refine (IM _ _ R2').mono ?_
    rintro e w5 ⟨rfl, hB⟩
    replace HB := HB.trans (hB.mono HB.size); replace HS := HS.step hB; replace B0 := B0.step hB; replace R2' := R2'.step hB; replace B5 := B5.step hB
    clear hB IM c0
    have H0 : Below w5.heap.size w5 w5 := Below.refl _ _
    have HK : ∀ V, Below w5.heap.size w5 V → (fun w' : World => w'.cell? ⟨w4.heap.size, 0, none⟩ = some (.slice (some ⟨g2, 0, none⟩) n n) ∧ w'.cell? ⟨w.heap.size, 0, none⟩ = some (.slice ao n cap)) V := fun V h => ⟨(B5.step h).c 0 rfl, (B0.step h).c 0 rfl⟩
    go_upto_region 10 with fail
    go_region_held3 (fun w' : World => w'.cell? ⟨w4.heap.size, 0, none⟩ = some (.slice (some ⟨g2, 0, none⟩) n n) ∧ w'.cell? ⟨w.heap.size, 0, none⟩ = some (.slice ao n cap)) (refine HK _ ?_ <;> repeat (first | (with_reducible exact H0) | (with_reducible refine Below.drew ?_)))
      (first
        | (go_at_call 10; refine (T1 _ (HS.step (by first | (with_reducible exact H0) | (with_reducible exact H0.drew)))).mono ?_; rintro e w6 ⟨g3, rfl, _, R3, hB⟩; (first | (have Hn : Below w5.heap.size w5 w6 := (by with_reducible exact H0.trans (hB.mono H0.size))) | (have Hn : Below w5.heap.size w5 w6 := (by with_reducible exact H0.drew.trans (hB.mono H0.drew.size)))); have R3' := spIn_row R3; clear hB H0 R3; have H0 := Hn; have R3b := Hn; clear Hn)
        | (go_at_call 12; refine (EQ _ _ _ (R2'.step (by first | (with_reducible exact H0) | (with_reducible exact H0.drew))) (by first | (with_reducible exact R3') | (with_reducible exact R3'.drew))).mono ?_; rintro e w7 ⟨rfl, hB⟩; (first | (have Hn : Below w5.heap.size w5 w7 := (by with_reducible exact H0.trans (hB.mono H0.size))) | (have Hn : Below w5.heap.size w5 w7 := (by with_reducible exact H0.drew.trans (hB.mono H0.drew.size)))); clear hB H0; have H0 := Hn; clear Hn))
    all_goals replace HB := HB.trans (H0.mono HB.size)
    all_goals clear HK H0 R2' R3' B0 B5 EQ T1 HS
    all_goals go_wp2
    all_goals go_ret
    all_goals exact ⟨rfl, by first | exact HB | exact HB.drew⟩
  · rw [if_neg (by omega)] at SZ
    go_wp2_with fail
    refine (SZ _).mono ?_
    rintro e w1 ⟨rfl, hB⟩
    replace HB := HB.trans (hB.mono HB.size)
    clear hB SZ b0 HS B0
    go_wp2
    go_ret
    exact ⟨rfl, HB⟩
end Go.Proofs.Ytgfhhmmckneliaa
