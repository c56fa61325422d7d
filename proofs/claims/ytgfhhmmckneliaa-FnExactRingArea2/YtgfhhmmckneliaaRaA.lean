/- Areas of rings: the walks of both sides. -/
import Derived.Test.YtgfhhmmckneliaaRg8
import Derived.Test.YtgfhhmmckneliaaRg11
import Derived.Test.YtgfhhmmckneliaaRg4
namespace Go.Proofs.Ytgfhhmmckneliaa
open Go.RowKit
set_option maxRecDepth 100000 in
set_option maxHeartbeats 4000000 in
theorem ringRight_any (ao : Option Addr) (n cap : Nat) (p : Ps) (hn : n ≤ 1048576) (hcap : n ≤ cap) (hcap2 : cap ≤ 9223372036854775807) (w : World) (hS : SpIn w ao n p) : Calls Try.prog 37 #[.agg #[.slice ao n cap]] w (VP (.bool (rgF n p == 0)) w) := by
  have HB : Below w.heap.size w (w.alloc (.cells #[.slice ao n cap] 29)) := (Below.refl _ w).alloc (Nat.le_refl _) _
  have b0 := (Blk.new w [.slice ao n cap] 29 rfl).c 0 rfl
  have RF := fun w h => implRingFault_any ao n cap p hn hcap hcap2 w h
  have HS := hS.step HB
  go_enter Try.func37, Try.ntmps37
  go_upto_region 1 with fail
  generalize (w.alloc (.cells #[.slice ao n cap] 29)) = W at *
  generalize rgF n p = f at *
  go_wp2_with fail
  refine (RF _ HS).mono ?_
  rintro e w1 ⟨rfl, hB⟩
  replace HB := HB.trans (hB.mono HB.size)
  clear hB RF HS b0 hS
  go_wp2
  go_ret
  exact ⟨rfl, HB⟩
set_option maxRecDepth 100000 in
set_option maxHeartbeats 4000000 in
theorem l5Ok_any (ao : Option Addr) (n cap : Nat) (p : Ps) (hn : n ≤ 1048576) (w : World) (hS : SpIn w ao n p) : Calls Try.prog 35 #[.agg #[.slice ao n cap]] w (VP (.bool (rgF n p == 0)) w) := by
  have HB : Below w.heap.size w (w.alloc (.cells #[.slice ao n cap] 29)) := (Below.refl _ w).alloc (Nat.le_refl _) _
  have b0 := (Blk.new w [.slice ao n cap] 29 rfl).c 0 rfl
  have RF := fun w h => specRingFault_any ao n cap p hn w h
  have HS := hS.step HB
  go_enter Try.func35, Try.ntmps35
  go_upto_region 1 with fail
  generalize (w.alloc (.cells #[.slice ao n cap] 29)) = W at *
  generalize rgF n p = f at *
  go_wp2_with fail
  refine (RF _ HS).mono ?_
  rintro e w1 ⟨rfl, hB⟩
  replace HB := HB.trans (hB.mono HB.size)
  clear hB RF HS b0 hS
  go_wp2
  go_ret
  exact ⟨rfl, HB⟩
theorem rgF_ok {n : Nat} {p : Ps} (h : rgF n p = 0) : 3 ≤ n ∧ n ≤ 12 ∧ (∀ i, i < n → spotOk (p i).1 (p i).2 = true) ∧ OneN n p := by
  unfold rgF at h
  by_cases h1 : n < 3
  · rw [if_pos h1] at h; omega
  rw [if_neg h1] at h
  by_cases h2 : 12 < n
  · rw [if_pos h2] at h; omega
  rw [if_neg h2] at h
  by_cases h3 : ∀ i, i < n → spotOk (p i).1 (p i).2 = true
  · rw [if_neg (fun hh => hh h3)] at h
    by_cases h4 : OneN n p
    · exact ⟨by omega, by omega, h3, h4⟩
    · rw [if_pos h4] at h; omega
  · rw [if_pos h3] at h; omega
/-- Twice the area of the first sides. -/
def arA (n : Nat) (p : Ps) : Nat → Int
  | 0 => 0
  | c + 1 => arA n p c + ((p c).1 * (p ((c + 1) % n)).2 - (p c).2 * (p ((c + 1) % n)).1)
theorem cross_bnd {a b x y : Int} (h1 : spotOk a b = true) (h2 : spotOk x y = true) : -1000000000000 ≤ a * y ∧ a * y ≤ 1000000000000 ∧ -1000000000000 ≤ b * x ∧ b * x ≤ 1000000000000 := by
  obtain ⟨⟨a1, a2⟩, b1, b2⟩ := in1_of h1
  obtain ⟨⟨x1, x2⟩, y1, y2⟩ := in1_of h2
  have e1 := mul_in (p := a) (q := y) (M := 1000000) (N := 1000000) a1 a2 y1 y2
  have e2 := mul_in (p := b) (q := x) (M := 1000000) (N := 1000000) b1 b2 x1 x2
  omega
theorem arA_bnd {n : Nat} {p : Ps} (hok : ∀ i, i < n → spotOk (p i).1 (p i).2 = true) : ∀ c, c ≤ n → -(c * 2000000000000 : Int) ≤ arA n p c ∧ arA n p c ≤ c * 2000000000000
  | 0, _ => by simp [arA]
  | c + 1, h => by
    have ih := arA_bnd hok c (by omega)
    have hb := cross_bnd (hok c (by omega)) (hok ((c + 1) % n) (Nat.mod_lt _ (by omega)))
    rw [arA]
    omega
set_option maxRecDepth 100000 in
set_option maxHeartbeats 4000000 in
theorem area2_any (ao : Option Addr) (n cap : Nat) (p : Ps) (hn : n ≤ 12) (hok : ∀ i, i < n → spotOk (p i).1 (p i).2 = true) (w : World) (hS : SpIn w ao n p) : Calls Try.prog 38 #[.agg #[.slice ao n cap]] w (VP (.int .i64 (arA n p n)) w) := by
  have B0 := Blk.new w [.slice ao n cap] 29 rfl
  have HB0 : Below w.heap.size w (w.alloc (.cells #[.slice ao n cap] 29)) := (Below.refl _ w).alloc (Nat.le_refl _) _
  have hmI : (n : Int) ≤ 12 := by omega
  have HS : Hid (SpIn (w.alloc (.cells #[.slice ao n cap] 29)) ao n p) := hS.step HB0
  clear hS
  go_enter Try.func38, Try.ntmps38
  have b0 := B0.c 0 rfl
  go_wp2_with fail
  generalize (w.alloc (.cells #[.slice ao n cap] 29)) = W1 at *
  go_loopw [3, 9] (fun o i wr => ∃ (c : Nat) (t : Int), c ≤ n ∧ i = .int .i64 c ∧ o = .int .i64 t ∧ Hid (t = arA n p c) ∧ Below W1.heap.size W1 wr) (fun _ i _ => n - (intOf i).toNat)
  case atStart => exact ⟨0, 0, by omega, rfl, rfl, rfl, Below.refl _ _⟩
  case round =>
    obtain ⟨c, t, hc, rfl, rfl, HT, HB⟩ := hrel
    clear b0
    by_cases hcn : c < n
    · obtain ⟨A, off, rfl, hA, q0, q1⟩ := HS.out.step HB c hcn
      have hcI : (c : Int) < n := by omega
      have hm : ((c + 1) % n) < n := Nat.mod_lt _ (by omega)
      have SA := fun w h => spotAfter_any (some ⟨A, off, none⟩) n cap p c hcn (by omega) w h
      obtain ⟨x1, x2⟩ := in1_of (hok c hcn)
      obtain ⟨y1, y2⟩ := in1_of (hok _ hm)
      have CR := cross_det (p c).1 (p c).2 (p ((c + 1) % n)).1 (p ((c + 1) % n)).2 (by omega) (by omega) (by omega) (by omega)
      have hcb := cross_bnd (hok c hcn) (hok _ hm)
      have hab := arA_bnd hok c (by omega)
      have hs : arA n p (c + 1) = arA n p c + ((p c).1 * (p ((c + 1) % n)).2 - (p c).2 * (p ((c + 1) % n)).1) := rfl
      have HNX : Hid (t + ((p c).1 * (p ((c + 1) % n)).2 - (p c).2 * (p ((c + 1) % n)).1) = arA n p (c + 1)) := by show _ = _; rw [hs, HT.out]
      have hwr : IntKind.i64.wrap (t + ((p c).1 * (p ((c + 1) % n)).2 - (p c).2 * (p ((c + 1) % n)).1)) = t + ((p c).1 * (p ((c + 1) % n)).2 - (p c).2 * (p ((c + 1) % n)).1) := by
        rw [IntKind.wrap_i64]
        have := HT.out
        omega
      clear hs hcb hab x1 x2 y1 y2
      replace B0 := B0.step HB
      have hB1 := (Below.refl wr.heap.size wr).alloc (Nat.le_refl _) (.cells #[.int .i64 (p c).1, .int .i64 (p c).2] 42)
      have HBA := HB.alloc HB.size (.cells #[.int .i64 (p c).1, .int .i64 (p c).2] 42)
      have Bs := Blk.new wr [.int .i64 (p c).1, .int .i64 (p c).2] 42 rfl
      replace B0 := B0.step hB1
      have HSA := (HS.out.step HB).step hB1
      clear hB1 HB
      go_upto_region 5 with fail
      generalize wr.alloc (.cells #[.int .i64 (p c).1, .int .i64 (p c).2] 42) = W2 at *
      have H0 : Below W2.heap.size W2 W2 := Below.refl _ _
      have HK : ∀ V, Below W2.heap.size W2 V → (fun w' : World => w'.cell? ⟨w.heap.size, 0, none⟩ = some (.slice (some ⟨A, off, none⟩) n cap) ∧ w'.cell? ⟨wr.heap.size, 0, none⟩ = some (.int .i64 (p c).1) ∧ w'.cell? ⟨wr.heap.size, 1, none⟩ = some (.int .i64 (p c).2)) V := fun V h => ⟨(B0.step h).c 0 rfl, (Bs.step h).c 0 rfl, (Bs.step h).c 1 rfl⟩
      generalize (p c).1 * (p ((c + 1) % n)).2 - (p c).2 * (p ((c + 1) % n)).1 = cr at *
      go_region_held3 (fun w' : World => w'.cell? ⟨w.heap.size, 0, none⟩ = some (.slice (some ⟨A, off, none⟩) n cap) ∧ w'.cell? ⟨wr.heap.size, 0, none⟩ = some (.int .i64 (p c).1) ∧ w'.cell? ⟨wr.heap.size, 1, none⟩ = some (.int .i64 (p c).2)) (refine HK _ ?_ <;> repeat (first | (with_reducible exact H0) | (with_reducible refine Below.drew ?_)))
        (first
          | (go_at_call 61; refine (SA _ (HSA.step (by first | (with_reducible exact H0) | (with_reducible exact H0.drew)))).mono ?_; rintro e v1 ⟨rfl, hB⟩; (first | (have Hn : Below W2.heap.size W2 v1 := (by with_reducible exact H0.trans (hB.mono H0.size))) | (have Hn : Below W2.heap.size W2 v1 := (by with_reducible exact H0.drew.trans (hB.mono H0.drew.size)))); clear hB H0; have H0 := Hn; clear Hn)
          | (go_at_call 60; refine (CR _).mono ?_; rintro e v2 ⟨rfl, hB⟩; (first | (have Hn : Below W2.heap.size W2 v2 := (by with_reducible exact H0.trans (hB.mono H0.size))) | (have Hn : Below W2.heap.size W2 v2 := (by with_reducible exact H0.drew.trans (hB.mono H0.drew.size)))); clear hB H0; have H0 := Hn; clear Hn))
      all_goals have HBN := HBA.trans (H0.mono HBA.size)
      all_goals clear HK H0 SA CR B0 Bs HSA HBA hA q0 q1
      all_goals go_wp2
      all_goals go_roundw
      case rel => exact ⟨c + 1, _, by omega, by go_num, rfl, HNX, by first | exact HBN | exact HBN.drew⟩
      case measure => simp [intOf]; omega
    · obtain rfl : n = c := by omega
      have HBF := HB0.trans (HB.mono HB0.size)
      clear HS B0
      go_wp2
      go_ret
      exact ⟨by rw [← HT.out]; rfl, HBF⟩
set_option maxRecDepth 100000 in
set_option maxHeartbeats 4000000 in
theorem l5Area2_any (ao : Option Addr) (n cap : Nat) (p : Ps) (hn : n ≤ 12) (hok : ∀ i, i < n → spotOk (p i).1 (p i).2 = true) (w : World) (hS : SpIn w ao n p) : Calls Try.prog 36 #[.agg #[.slice ao n cap]] w (VP (.int .i64 (arA n p n)) w) := by
  have B0 := Blk.new w [.slice ao n cap] 29 rfl
  have HB0 : Below w.heap.size w (w.alloc (.cells #[.slice ao n cap] 29)) := (Below.refl _ w).alloc (Nat.le_refl _) _
  have hmI : (n : Int) ≤ 12 := by omega
  have HS : Hid (SpIn (w.alloc (.cells #[.slice ao n cap] 29)) ao n p) := hS.step HB0
  clear hS
  go_enter Try.func36, Try.ntmps36
  go_wp2_with fail
  generalize (w.alloc (.cells #[.slice ao n cap] 29)) = W1 at *
  go_loopw [3, 4] (fun o i wr => ∃ (c : Nat) (t : Int), c ≤ n ∧ i = .int .i64 c ∧ o = .int .i64 t ∧ Hid (t = arA n p c) ∧ Below W1.heap.size W1 wr) (fun _ i _ => n - (intOf i).toNat)
  case atStart => exact ⟨0, 0, by omega, rfl, rfl, rfl, Below.refl _ _⟩
  case round =>
    obtain ⟨c, t, hc, rfl, rfl, HT, HB⟩ := hrel
    by_cases hcn : c < n
    · have hm : ((c + 1) % n) < n := Nat.mod_lt _ (by omega)
      obtain ⟨A, off, rfl, hA, q0, q1⟩ := HS.out.step HB c hcn
      obtain ⟨A', off', hao, -, m0, m1⟩ := HS.out.step HB _ hm
      obtain ⟨rfl, rfl⟩ : A = A' ∧ off = off' := by simpa using hao
      have hcI : (c : Int) < n := by omega
      have hcb := cross_bnd (hok c hcn) (hok _ hm)
      have hab := arA_bnd hok c (by omega)
      have hs : arA n p (c + 1) = arA n p c + ((p c).1 * (p ((c + 1) % n)).2 - (p c).2 * (p ((c + 1) % n)).1) := rfl
      have hrem : ((c : Int) + 1).tmod (n : Int) = ((((c + 1) % n) : Nat) : Int) := by
        rw [Int.tmod_eq_emod_of_nonneg (by omega), Int.natCast_emod]
        rfl
      have hadd : IntKind.i64.wrap ((c : Int) + 1) = (c : Int) + 1 := by rw [IntKind.wrap_i64]; omega
      have hmI2 : ((((c + 1) % n) : Nat) : Int) < n := by omega
      have hl0 : ¬ ((n : Int) = 0) := by omega
      have hl1 : ¬ (n = 0) := by omega
      have b0 := (B0.step HB).c 0 rfl
      have HNX : Hid (t + (p c).1 * (p ((c + 1) % n)).2 - (p c).2 * (p ((c + 1) % n)).1 = arA n p (c + 1)) := by show _ = _; rw [hs, HT.out]; omega
      have k1 : IntKind.i64.wrap ((p c).1 * (p ((c + 1) % n)).2) = (p c).1 * (p ((c + 1) % n)).2 := by rw [IntKind.wrap_i64]; omega
      have k2 : IntKind.i64.wrap ((p c).2 * (p ((c + 1) % n)).1) = (p c).2 * (p ((c + 1) % n)).1 := by rw [IntKind.wrap_i64]; omega
      have k3 : IntKind.i64.wrap (t + (p c).1 * (p ((c + 1) % n)).2) = t + (p c).1 * (p ((c + 1) % n)).2 := by rw [IntKind.wrap_i64]; have := HT.out; omega
      have k4 : IntKind.i64.wrap (t + (p c).1 * (p ((c + 1) % n)).2 - (p c).2 * (p ((c + 1) % n)).1) = t + (p c).1 * (p ((c + 1) % n)).2 - (p c).2 * (p ((c + 1) % n)).1 := by rw [IntKind.wrap_i64]; have := HT.out; omega
      clear hcb hab hs hao
      have hB1 := (Below.refl wr.heap.size wr).alloc (Nat.le_refl _) (.cells #[.int .i64 (p c).1, .int .i64 (p c).2] 42)
      have Bs := Blk.new wr [.int .i64 (p c).1, .int .i64 (p c).2] 42 rfl
      have B2 := (B0.step HB).step hB1
      have HBA := HB.alloc HB.size (.cells #[.int .i64 (p c).1, .int .i64 (p c).2] 42)
      have n0 := (hB1.cell (p := ⟨A, _, none⟩) hA).trans m0
      have n1 := (hB1.cell (p := ⟨A, _, none⟩) hA).trans m1
      have hA2 := Nat.lt_of_lt_of_le hA hB1.size
      clear HB m0 m1
      go_upto_region 6 with fail
      have hsz2 : (wr.alloc (.cells #[.int .i64 (p c).1, .int .i64 (p c).2] 42)).heap.size = wr.heap.size + 1 := by simp
      generalize wr.alloc (.cells #[.int .i64 (p c).1, .int .i64 (p c).2] 42) = W2 at *
      have H0 : Below W2.heap.size W2 W2 := Below.refl _ _
      have HK : ∀ V, Below W2.heap.size W2 V → (fun w' : World => w'.cell? ⟨w.heap.size, 0, none⟩ = some (.slice (some ⟨A, off, none⟩) n cap) ∧ w'.cell? ⟨A, off + ((c + 1) % n) * 2, none⟩ = some (.int .i64 (p ((c + 1) % n)).1) ∧ w'.cell? ⟨A, off + ((c + 1) % n) * 2 + 1, none⟩ = some (.int .i64 (p ((c + 1) % n)).2)) V := fun V h => ⟨(B2.step h).c 0 rfl, (h.cell (p := ⟨A, _, none⟩) hA2).trans n0, (h.cell (p := ⟨A, _, none⟩) hA2).trans n1⟩
      generalize ((c + 1) % n) = e' at *
      clear n0 n1 q0 q1 hA b0 hm
      go_region_held3 (fun w' : World => w'.cell? ⟨w.heap.size, 0, none⟩ = some (.slice (some ⟨A, off, none⟩) n cap) ∧ w'.cell? ⟨A, off + e' * 2, none⟩ = some (.int .i64 (p e').1) ∧ w'.cell? ⟨A, off + e' * 2 + 1, none⟩ = some (.int .i64 (p e').2)) (refine HK _ ?_ <;> repeat (first | (with_reducible exact H0) | (with_reducible refine Below.drew ?_) | (with_reducible refine Below.alloc ?_ (by simp) _) | (with_reducible refine Below.setCell ?_ (by first | exact Nat.le_refl _ | simp) _))) (fail)
      all_goals have hB2 : Below W2.heap.size W2 (W2.alloc (.cells #[.int .i64 (p e').1, .int .i64 (p e').2] 42)).drew := ((Below.refl _ _).alloc (Nat.le_refl _) _).drew
      all_goals have B3 : Blk (W2.alloc (.cells #[.int .i64 (p e').1, .int .i64 (p e').2] 42)).drew (wr.heap.size + 1) [.int .i64 (p e').1, .int .i64 (p e').2] := (Blk.new W2 [.int .i64 (p e').1, .int .i64 (p e').2] 42 (g := wr.heap.size + 1) hsz2.symm).drew
      all_goals have B4 := Bs.step hB2
      all_goals have HBN := HBA.trans (hB2.mono HBA.size)
      all_goals have c0 := B4.c 0 rfl; have c1 := B4.c 1 rfl; have d0 := B3.c 0 rfl; have d1 := B3.c 1 rfl
      all_goals clear HK H0 B2 Bs HBA hB2 B3 B4
      all_goals generalize (W2.alloc (.cells #[.int .i64 (p e').1, .int .i64 (p e').2] 42)).drew = W3 at *
      all_goals go_wp2
      all_goals go_roundw
      case rel => exact ⟨c + 1, _, by omega, by go_num, rfl, HNX, HBN⟩
      case measure => simp [intOf]; omega
    · obtain rfl : n = c := by omega
      have HBF := HB0.trans (HB.mono HB0.size)
      have b0 := (B0.step HB).c 0 rfl
      clear HS B0
      go_wp2
      go_ret
      exact ⟨by rw [← HT.out]; rfl, HBF⟩
end Go.Proofs.Ytgfhhmmckneliaa
