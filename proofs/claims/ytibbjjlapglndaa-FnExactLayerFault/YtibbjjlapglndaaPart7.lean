/- Part 7 of the walks that the proof leans on. -/
import Derived.Test.YtibbjjlapglndaaPart3
import Derived.Test.YtibbjjlapglndaaPart6
/- A ring's sides: the walks of both sides. -/
namespace Go.Proofs.Ytibbjjlapglndaa
open Go.RowKit
set_option maxRecDepth 100000 in
set_option maxHeartbeats 4000000 in
theorem spotAfter_any (ao : Option Addr) (n cap : Nat) (p : Ps) (i : Nat) (hi : i < n) (hn : n ≤ 1048576) (w : World) (hS : SpIn w ao n p) : Calls Try.prog 61 #[.agg #[.slice ao n cap], .int .i64 (i : Int)] w (VP (Sp (p ((i + 1) % n)).1 (p ((i + 1) % n)).2) w) := by
  have hm : (i + 1) % n < n := Nat.mod_lt _ (by omega)
  obtain ⟨A, off, rfl, hA, q0, q1⟩ := hS _ hm
  have B0 := (Blk.new w [.slice (some ⟨A, off, none⟩) n cap] 45 rfl).alloc (.cells #[.int .i64 0, .int .i64 0] 54)
  have B1 := Blk.new (w.alloc (.cells #[.slice (some ⟨A, off, none⟩) n cap] 45)) [.int .i64 0, .int .i64 0] 54 (g := w.heap.size + 1) (by simp)
  have HB : Below w.heap.size w ((w.alloc (.cells #[.slice (some ⟨A, off, none⟩) n cap] 45)).alloc (.cells #[.int .i64 0, .int .i64 0] 54)) := ((Below.refl _ w).alloc (Nat.le_refl _) _).alloc (by simp) _
  replace q0 := (HB.cell (p := ⟨A, _, none⟩) hA).trans q0
  replace q1 := (HB.cell (p := ⟨A, _, none⟩) hA).trans q1
  have hrem : ((i : Int) + 1).tmod (n : Int) = (((i + 1) % n : Nat) : Int) := by
    rw [Int.tmod_eq_emod_of_nonneg (by omega), Int.natCast_emod]
    rfl
  have hadd : IntKind.i64.wrap ((i : Int) + 1) = (i : Int) + 1 := by rw [IntKind.wrap_i64]; omega
  have hmI : (((i + 1) % n : Nat) : Int) < n := by have := Nat.mod_lt (i + 1) (show 0 < n by omega); omega
  have hl0 : ¬ ((n : Int) = 0) := by omega
  have hl1 : ¬ (n = 0) := by omega
  have hne : A ≠ w.heap.size := by omega
  have hne1 : A ≠ w.heap.size + 1 := by omega
  go_enter Try.func61, Try.ntmps61
  go_upto_region 1 with fail
  generalize (w.alloc (.cells #[.slice (some ⟨A, off, none⟩) n cap] 45)).alloc (.cells #[.int .i64 0, .int .i64 0] 54) = W at *
  have HK : ∀ W', Below (w.heap.size + 1) W W' → (fun w' : World => w'.cell? ⟨w.heap.size, 0, none⟩ = some (.slice (some ⟨A, off, none⟩) n cap) ∧ w'.cell? ⟨A, off + ((i + 1) % n) * 2, none⟩ = some (.int .i64 (p ((i + 1) % n)).1) ∧ w'.cell? ⟨A, off + ((i + 1) % n) * 2 + 1, none⟩ = some (.int .i64 (p ((i + 1) % n)).2)) W' := fun W' h => ⟨(B0.below h (by omega)).c 0 rfl, (h.cell (p := ⟨A, _, none⟩) (by show A < w.heap.size + 1; omega)).trans q0, (h.cell (p := ⟨A, _, none⟩) (by show A < w.heap.size + 1; omega)).trans q1⟩
  have H0 : Below (w.heap.size + 1) W W := Below.refl _ _
  have z0 := B1.c 0 rfl; have z1 := B1.c 1 rfl; have y0 := B1.f 0 rfl; have y1 := B1.f 1 rfl; have zl := B1.lt
  have hI1 : (i : Int) < n := by omega
  have hnI : (n : Int) ≤ 1048576 := by omega
  clear hm hS B0 q0 q1
  generalize ((i + 1) % n) = e' at *
  go_region_held3 (fun w' : World => w'.cell? ⟨w.heap.size, 0, none⟩ = some (.slice (some ⟨A, off, none⟩) n cap) ∧ w'.cell? ⟨A, off + e' * 2, none⟩ = some (.int .i64 (p e').1) ∧ w'.cell? ⟨A, off + e' * 2 + 1, none⟩ = some (.int .i64 (p e').2)) (refine HK _ ?_ <;> repeat (first | (with_reducible exact H0) | (with_reducible refine Below.drew ?_) | (with_reducible refine Below.setCell ?_ (by first | exact Nat.le_refl _ | simp) _))) (fail)
  all_goals have RN : Blk ((W.setCell ⟨w.heap.size + 1, 0, none⟩ (.int .i64 (p e').1)).setCell ⟨w.heap.size + 1, 1, none⟩ (.int .i64 (p e').2)).drew (w.heap.size + 1) [.int .i64 (p e').1, .int .i64 (p e').2] := ((B1.setI 0 (by simp) _).setI 1 (by simp) _).drew
  all_goals have HN : Below w.heap.size w ((W.setCell ⟨w.heap.size + 1, 0, none⟩ (.int .i64 (p e').1)).setCell ⟨w.heap.size + 1, 1, none⟩ (.int .i64 (p e').2)).drew := ((HB.setCell (p := ⟨w.heap.size + 1, 0, none⟩) (by simp) _).setCell (p := ⟨w.heap.size + 1, 1, none⟩) (by simp) _).drew
  all_goals have r0 := RN.c 0 rfl; have r1 := RN.c 1 rfl
  all_goals go_wp2
  all_goals refine bodyPost_ret (v := Sp (p e').1 (p e').2) (by simp [results, Try.results61, go_sem, r0, r1]) rfl ?_
  all_goals exact ⟨rfl, HN⟩
/-- The greatest kind of meeting that two sides may have. -/
def moI (n i j : Nat) : Int := if i + 1 = j ∨ j + 1 = i ∨ i + n = j + 1 ∨ j + n = i + 1 then 1 else 0
set_option maxRecDepth 100000 in
set_option maxHeartbeats 4000000 in
theorem most_any (ao : Option Addr) (n cap : Nat) (i j : Nat) (hi : i < n) (hj : j < n) (hn : n ≤ 1048576) (h3 : 2 ≤ n) (w : World) : Calls Try.prog 48 #[.agg #[.slice ao n cap], .int .i64 (i : Int), .int .i64 (j : Int)] w (VP (.int .i64 (moI n i j)) w) := by
  have HB : Below w.heap.size w (w.alloc (.cells #[.slice ao n cap] 45)) := (Below.refl _ w).alloc (Nat.le_refl _) _
  have B0 := Blk.new w [.slice ao n cap] 45 rfl
  have s1 : IntKind.i64.wrap ((i : Int) - j) = (i : Int) - j := by rw [IntKind.wrap_i64]; omega
  have s2 : IntKind.i64.wrap ((j : Int) - i) = (j : Int) - i := by rw [IntKind.wrap_i64]; omega
  have s3 : IntKind.i64.wrap ((n : Int) - 1) = (n : Int) - 1 := by rw [IntKind.wrap_i64]; omega
  have b0 := B0.c 0 rfl
  go_enter Try.func48, Try.ntmps48
  go_upto_region 1 with fail
  generalize (w.alloc (.cells #[.slice ao n cap] 45)) = W at *
  go_upto_region 2 with fail
  generalize hz : (if (i : Int) - j < (j : Int) - i then (j : Int) - i else (i : Int) - j) = z at *
  have hz2 : (z = (i : Int) - j ∧ (j : Int) ≤ i) ∨ (z = (j : Int) - i ∧ (i : Int) ≤ j) := by
    rw [← hz]
    split <;> omega
  clear hz s1 s2
  by_cases a1 : z = 1
  · have HO : Hid (moI n i j = 1) := by show _ = _; unfold moI; rw [if_pos (by omega)]
    subst a1
    clear hz2 B0
    go_wp2
    go_ret
    exact ⟨by rw [HO.out]; rfl, HB⟩
  · have a1' : (z == 1) = false := beq_eq_false_iff_ne.2 a1
    by_cases a2 : z = (n : Int) - 1
    · have HO : Hid (moI n i j = 1) := by show _ = _; unfold moI; rw [if_pos (by omega)]
      have a2' : (z == (n : Int) - 1) = true := by rw [a2]; exact beq_self_eq_true _
      clear hz2 B0 a1 a2
      go_wp2
      go_ret
      exact ⟨by rw [HO.out]; rfl, HB⟩
    · have HO : Hid (moI n i j = 0) := by show _ = _; unfold moI; rw [if_neg (by omega)]
      have a2' : (z == (n : Int) - 1) = false := beq_eq_false_iff_ne.2 a2
      clear hz2 B0 a1 a2
      go_wp2
      go_ret
      exact ⟨by rw [HO.out]; rfl, HB⟩
set_option maxRecDepth 100000 in
set_option maxHeartbeats 4000000 in
theorem wrong_any (ao : Option Addr) (n cap : Nat) (p : Ps) (hn : n ≤ 1048576) (w : World) (hS : SpIn w ao n p) : Calls Try.prog 30 #[.agg #[.slice ao n cap]] w (VP (.bool (decide (¬ (∀ i, i < n → spotOk (p i).1 (p i).2 = true)))) w) := by
  have B0 := Blk.new w [.slice ao n cap] 45 rfl
  have HB0 : Below w.heap.size w (w.alloc (.cells #[.slice ao n cap] 45)) := (Below.refl _ w).alloc (Nat.le_refl _) _
  have hmI : (n : Int) ≤ 1048576 := by omega
  have HS : Hid (SpIn (w.alloc (.cells #[.slice ao n cap] 45)) ao n p) := hS.step HB0
  clear hS
  go_enter Try.func30, Try.ntmps30
  have b0 := B0.c 0 rfl
  go_wp2_with fail
  generalize (w.alloc (.cells #[.slice ao n cap] 45)) = W1 at *
  go_loopw [8] (fun i wr => ∃ c : Nat, c ≤ n ∧ i = .int .i64 c ∧ (∀ j, j < c → spotOk (p j).1 (p j).2 = true) ∧ Below W1.heap.size W1 wr) (fun i _ => n - (intOf i).toNat)
  case atStart => exact ⟨0, by omega, rfl, fun j hj => by omega, Below.refl _ _⟩
  case round =>
    obtain ⟨c, hc, rfl, hall, HB⟩ := hrel
    have HA : Hid (∀ j, j < c → spotOk (p j).1 (p j).2 = true) := hall
    clear hall b0
    by_cases hcn : c < n
    · obtain ⟨A, off, rfl, hA, q0, q1⟩ := HS.out.step HB c hcn
      have hcI : (c : Int) < n := by omega
      clear B0
      go_wp2_with fail
      refine (implSpotOk_any (p c).1 (p c).2 _ rfl _).mono ?_
      rintro e w1 ⟨rfl, hB⟩
      replace HB := (HB.alloc HB.size _).trans (hB.mono (HB.alloc HB.size _).size)
      clear hB q0 q1 hA
      by_cases hk : spotOk (p c).1 (p c).2 = true
      · rw [hk]
        have HK : Hid (spotOk (p c).1 (p c).2 = true) := hk
        clear hk
        go_wp2
        go_roundw
        case rel => exact ⟨c + 1, by omega, by go_num, fun j hj => by
          rcases Nat.lt_or_ge j c with h | h
          · exact HA.out j h
          · obtain rfl : j = c := by omega
            exact HK.out, HB⟩
        case measure => simp [intOf]; omega
      · have HO : Hid (decide (¬ (∀ i, i < n → spotOk (p i).1 (p i).2 = true)) = true) := decide_eq_true (fun h => hk (h c hcn))
        rw [Bool.eq_false_iff.2 hk]
        have HBF := HB0.trans (HB.mono HB0.size)
        clear hk
        go_wp2
        go_ret
        exact ⟨by rw [HO.out]; rfl, HBF⟩
    · obtain rfl : c = n := by omega
      have HO : Hid (decide (¬ (∀ i, i < c → spotOk (p i).1 (p i).2 = true)) = false) := decide_eq_false (fun h => h HA.out)
      have HBF := HB0.trans (HB.mono HB0.size)
      clear HA HS B0
      go_wp2
      go_ret
      exact ⟨by rw [HO.out]; rfl, HBF⟩
end Go.Proofs.Ytibbjjlapglndaa

/- Whether a spot stands twice in a ring: the program's walk. -/
namespace Go.Proofs.Ytibbjjlapglndaa
open Go.RowKit
theorem eqSp2 (x y u v : Int) (w : World) : (Op.equalIn 10000 54 (Sp x y) (Sp u v)).run Try.prog w = .ok (decide (x = u) && decide (y = v)) w := by
  have u3 := Try.underlying2
  have a3 := Try.isAgg2
  have z3 := Try.sizeOf2
  rw [show (10000 : Nat) = 9999 + 1 from rfl, Op.equalIn]
  simp only [Sem.run_bind, run_underlying Try.underlying54, Result.andThen_ok]
  go_simp
  by_cases h1 : x = u
  · by_cases h2 : y = v
    · simp [h1, h2]
    · simp [h1, h2]
  · simp [h1]
/-- Whether a spot is among the first ones. -/
def amB (n : Nat) (p : Ps) (x y : Int) : Bool := decide (∃ i, i < n ∧ (p i).1 = x ∧ (p i).2 = y)
set_option maxRecDepth 100000 in
set_option maxHeartbeats 4000000 in
theorem index_any (ao : Option Addr) (n cap : Nat) (p : Ps) (x y : Int) (hn : n ≤ 1048576) (w : World) (hS : SpIn w ao n p) : Calls Try.prog 58 #[.slice ao n cap, Sp x y] w (fun e w' => ∃ k : Int, e = .returned (.int .i64 k) ∧ decide (0 ≤ k) = amB n p x y ∧ Below w.heap.size w w') := by
  have B0 := Blk.new w [.int .i64 x, .int .i64 y] 54 rfl
  have HB0 : Below w.heap.size w (w.alloc (.cells #[.int .i64 x, .int .i64 y] 54)) := (Below.refl _ w).alloc (Nat.le_refl _) _
  have hmI : (n : Int) ≤ 1048576 := by omega
  have HS : Hid (SpIn (w.alloc (.cells #[.int .i64 x, .int .i64 y] 54)) ao n p) := hS.step HB0
  clear hS
  go_enter Try.func58, Try.ntmps58
  go_wp2_with fail
  generalize (w.alloc (.cells #[.int .i64 x, .int .i64 y] 54)) = W1 at *
  go_loopw [8] (fun i wr => ∃ c : Nat, c ≤ n ∧ i = .int .i64 c ∧ (∀ j, j < c → ¬ ((p j).1 = x ∧ (p j).2 = y)) ∧ Below W1.heap.size W1 wr) (fun i _ => n - (intOf i).toNat)
  case atStart => exact ⟨0, by omega, rfl, fun j hj => by omega, Below.refl _ _⟩
  case round =>
    obtain ⟨c, hc, rfl, hall, HB⟩ := hrel
    have HA : Hid (∀ j, j < c → ¬ ((p j).1 = x ∧ (p j).2 = y)) := hall
    clear hall
    by_cases hcn : c < n
    · obtain ⟨A, off, rfl, hA, q0, q1⟩ := HS.out.step HB c hcn
      have hcI : (c : Int) < n := by omega
      replace B0 := B0.step HB
      have b0 := B0.c 0 rfl; have b1 := B0.c 1 rfl
      have EQ := eqSp2 x y (p c).1 (p c).2
      have KS : (fun w' : World => w'.cell? ⟨w.heap.size, 0, none⟩ = some (.int .i64 x) ∧ w'.cell? ⟨w.heap.size, 1, none⟩ = some (.int .i64 y) ∧ w'.cell? ⟨A, off + c * 2, none⟩ = some (.int .i64 (p c).1) ∧ w'.cell? ⟨A, off + c * 2 + 1, none⟩ = some (.int .i64 (p c).2)) wr := ⟨b0, b1, q0, q1⟩
      go_upto_region 4 with fail
      go_region_held3 (fun w' : World => w'.cell? ⟨w.heap.size, 0, none⟩ = some (.int .i64 x) ∧ w'.cell? ⟨w.heap.size, 1, none⟩ = some (.int .i64 y) ∧ w'.cell? ⟨A, off + c * 2, none⟩ = some (.int .i64 (p c).1) ∧ w'.cell? ⟨A, off + c * 2 + 1, none⟩ = some (.int .i64 (p c).2)) (exact KS) (fail)
      all_goals have HBF := HB0.trans (HB.drew.mono HB0.size)
      all_goals clear KS b0 b1 q0 q1 EQ B0 hA HS
      all_goals by_cases h : x = (p c).1 ∧ y = (p c).2
      all_goals first
        | (obtain ⟨h1, h2⟩ := h
           have HO : Hid (decide (0 ≤ (c : Int)) = amB n p x y) := by
             show _ = _
             rw [decide_eq_true (by omega), eq_comm]
             exact decide_eq_true ⟨c, hcn, h1.symm, h2.symm⟩
           have d1 : (decide (x = (p c).1) && decide (y = (p c).2)) = true := by simp [h1, h2]
           rw [d1]
           clear d1 h1 h2 HA
           go_wp2
           go_ret
           exact ⟨(c : Int), rfl, HO.out, HBF⟩)
        | (have d1 : (decide (x = (p c).1) && decide (y = (p c).2)) = false := by
             rw [Bool.eq_false_iff]
             intro hh
             simp at hh
             exact h hh
           have HH : Hid (¬ (x = (p c).1 ∧ y = (p c).2)) := h
           rw [d1]
           clear d1 h HBF
           have HBD := HB.drew
           clear HB
           go_wp2
           go_roundw)
      case rel => exact ⟨c + 1, by omega, by go_num, fun j hj => by
        rcases Nat.lt_or_ge j c with h | h
        · exact HA.out j h
        · obtain rfl : j = c := by omega
          exact fun k => HH.out ⟨k.1.symm, k.2.symm⟩, HBD⟩
      case measure => simp [intOf]; omega
    · obtain rfl : c = n := by omega
      have HO : Hid (decide (0 ≤ (-1 : Int)) = amB c p x y) := by
        show _ = _
        rw [decide_eq_false (by omega), eq_comm]
        exact decide_eq_false (fun ⟨i, hi, h⟩ => HA.out i hi h)
      have HBF := HB0.trans (HB.mono HB0.size)
      clear HA HS B0
      go_wp2
      go_ret
      exact ⟨-1, rfl, HO.out, HBF⟩
set_option maxRecDepth 100000 in
set_option maxHeartbeats 4000000 in
theorem contains_any (ao : Option Addr) (n cap : Nat) (p : Ps) (x y : Int) (hn : n ≤ 1048576) (w : World) (hS : SpIn w ao n p) : Calls Try.prog 45 #[.slice ao n cap, Sp x y] w (VP (.bool (amB n p x y)) w) := by
  have B0 := Blk.new w [.int .i64 x, .int .i64 y] 54 rfl
  have HB0 : Below w.heap.size w (w.alloc (.cells #[.int .i64 x, .int .i64 y] 54)) := (Below.refl _ w).alloc (Nat.le_refl _) _
  have HS := hS.step HB0
  clear hS
  have b0 := B0.c 0 rfl; have b1 := B0.c 1 rfl
  go_enter Try.func45, Try.ntmps45
  go_wp2_with fail
  refine (index_any ao n cap p x y hn _ HS).mono ?_
  rintro e w1 ⟨k, rfl, hk, hB⟩
  have HBF := HB0.trans (hB.mono HB0.size)
  have HO : Hid (decide (0 ≤ k) = amB n p x y) := hk
  clear hB B0 b0 b1 HS hk
  go_wp2
  go_ret
  exact ⟨by rw [← HO.out]; rfl, HBF⟩
set_option maxRecDepth 100000 in
set_option maxHeartbeats 4000000 in
theorem twice_any (ao : Option Addr) (n cap : Nat) (p : Ps) (hn : n ≤ 1048576) (w : World) (hS : SpIn w ao n p) (hcap : n ≤ cap) (hcap2 : cap ≤ 9223372036854775807) : Calls Try.prog 31 #[.agg #[.slice ao n cap]] w (VP (.bool (decide (¬ OneN n p))) w) := by
  have B0 := Blk.new w [.slice ao n cap] 45 rfl
  have HB0 : Below w.heap.size w (w.alloc (.cells #[.slice ao n cap] 45)) := (Below.refl _ w).alloc (Nat.le_refl _) _
  have hmI : (n : Int) ≤ 1048576 := by omega
  have hcI1 : (n : Int) ≤ cap := by omega
  have hcI2 : (cap : Int) ≤ 9223372036854775807 := by omega
  have HS : Hid (SpIn (w.alloc (.cells #[.slice ao n cap] 45)) ao n p) := hS.step HB0
  clear hS
  go_enter Try.func31, Try.ntmps31
  have b0 := B0.c 0 rfl
  go_wp2_with fail
  generalize (w.alloc (.cells #[.slice ao n cap] 45)) = W1 at *
  go_loopw [8] (fun i wr => ∃ c : Nat, c ≤ n ∧ i = .int .i64 c ∧ (∀ j, j < c → ∀ k, k < j → p j ≠ p k) ∧ Below W1.heap.size W1 wr) (fun i _ => n - (intOf i).toNat)
  case atStart => exact ⟨0, by omega, rfl, fun j hj => by omega, Below.refl _ _⟩
  case round =>
    obtain ⟨c, hc, rfl, hall, HB⟩ := hrel
    have HA : Hid (∀ j, j < c → ∀ k, k < j → p j ≠ p k) := hall
    clear hall b0
    by_cases hcn : c < n
    · obtain ⟨A, off, rfl, hA, q0, q1⟩ := HS.out.step HB c hcn
      have hcI : (c : Int) < n := by omega
      have hcc : (c : Int) ≤ cap := by omega
      have hc0 : (0 : Int) ≤ c := by omega
      have HSc : SpIn wr (some ⟨A, off, none⟩) c p := fun i hi => HS.out.step HB i (by omega)
      replace B0 := B0.step HB
      have hB1 := (Below.refl wr.heap.size wr).alloc (Nat.le_refl _) (.cells #[.int .i64 (p c).1, .int .i64 (p c).2] 54)
      have HBA := HB.alloc HB.size (.cells #[.int .i64 (p c).1, .int .i64 (p c).2] 54)
      have Bs := Blk.new wr [.int .i64 (p c).1, .int .i64 (p c).2] 54 rfl
      replace B0 := B0.step hB1
      replace HSc := HSc.step hB1
      have CO := fun w h => contains_any (some ⟨A, off, none⟩) c cap p (p c).1 (p c).2 (by omega) w h
      have KS : (fun w' : World => w'.cell? ⟨w.heap.size, 0, none⟩ = some (.slice (some ⟨A, off, none⟩) n cap) ∧ w'.cell? ⟨wr.heap.size, 0, none⟩ = some (.int .i64 (p c).1) ∧ w'.cell? ⟨wr.heap.size, 1, none⟩ = some (.int .i64 (p c).2)) (wr.alloc (.cells #[.int .i64 (p c).1, .int .i64 (p c).2] 54)) := ⟨B0.c 0 rfl, Bs.c 0 rfl, Bs.c 1 rfl⟩
      clear hB1 HB
      go_upto_region 4 with fail
      generalize wr.alloc (.cells #[.int .i64 (p c).1, .int .i64 (p c).2] 54) = W2 at *
      go_region_held3 (fun w' : World => w'.cell? ⟨w.heap.size, 0, none⟩ = some (.slice (some ⟨A, off, none⟩) n cap) ∧ w'.cell? ⟨wr.heap.size, 0, none⟩ = some (.int .i64 (p c).1) ∧ w'.cell? ⟨wr.heap.size, 1, none⟩ = some (.int .i64 (p c).2)) (first | (exact KS) | (exact KS'))
        (first
          | (go_at_call 45; refine (CO _ (by first | (with_reducible exact HSc) | (with_reducible exact HSc.drew))).mono ?_; rintro e w1 ⟨rfl, hB⟩; (first | (have KS' : (fun w' : World => w'.cell? ⟨w.heap.size, 0, none⟩ = some (.slice (some ⟨A, off, none⟩) n cap) ∧ w'.cell? ⟨wr.heap.size, 0, none⟩ = some (.int .i64 (p c).1) ∧ w'.cell? ⟨wr.heap.size, 1, none⟩ = some (.int .i64 (p c).2)) w1 := ⟨(B0.step hB).c 0 rfl, (Bs.step hB).c 0 rfl, (Bs.step hB).c 1 rfl⟩; have HBN := HBA.trans (hB.mono HBA.size)) | (have KS' : (fun w' : World => w'.cell? ⟨w.heap.size, 0, none⟩ = some (.slice (some ⟨A, off, none⟩) n cap) ∧ w'.cell? ⟨wr.heap.size, 0, none⟩ = some (.int .i64 (p c).1) ∧ w'.cell? ⟨wr.heap.size, 1, none⟩ = some (.int .i64 (p c).2)) w1 := ⟨(B0.drew.step hB).c 0 rfl, (Bs.drew.step hB).c 0 rfl, (Bs.drew.step hB).c 1 rfl⟩; have HBN := HBA.drew.trans (hB.mono HBA.drew.size))); clear hB))
      all_goals clear KS KS' CO HSc Bs B0 HBA hA q0 q1
      all_goals cases ham : amB c p (p c).1 (p c).2
      all_goals first
        | (have HN : Hid (∀ k, k < c → p c ≠ p k) := fun k hk e => by
             have := of_decide_eq_false ham
             exact this ⟨k, hk, by rw [e], by rw [e]⟩
           clear ham
           go_wp2
           go_roundw)
        | (have HO : Hid (decide (¬ OneN n p) = true) := decide_eq_true (fun h => by
             obtain ⟨k, hk, e1, e2⟩ := of_decide_eq_true ham
             exact h c hcn k hk (Prod.ext e1.symm e2.symm))
           have HBF := HB0.trans (HBN.mono HB0.size)
           clear ham
           go_wp2
           go_ret
           exact ⟨by rw [HO.out]; rfl, HBF⟩)
      case rel => exact ⟨c + 1, by omega, by go_num, fun j hj => by
        rcases Nat.lt_or_ge j c with h | h
        · exact HA.out j h
        · obtain rfl : j = c := by omega
          exact HN.out, HBN⟩
      case measure => simp [intOf]; omega
    · obtain rfl : c = n := by omega
      have HO : Hid (decide (¬ OneN c p) = false) := decide_eq_false (fun h => h HA.out)
      have HBF := HB0.trans (HB.mono HB0.size)
      clear HA HS B0
      go_wp2
      go_ret
      exact ⟨by rw [HO.out]; rfl, HBF⟩
end Go.Proofs.Ytibbjjlapglndaa

/- Where two segments of one line meet: the model's walk. -/
namespace Go.Proofs.Ytibbjjlapglndaa
open Go.RowKit
set_option maxRecDepth 100000 in
set_option maxHeartbeats 16000000 in
theorem l4Meet_along (a b c d p q u v : Int) (ha : In1 a) (hb : In1 b) (hc : In1 c) (hd : In1 d) (hp : In1 p) (hq : In1 q) (hu : In1 u) (hv : In1 v) (hb0 : turnZ a b c d p q = 0 ∧ turnZ a b c d u v = 0) (w : World) : Calls Try.prog 27 #[Sg a b c d, Sg p q u v] w (MtP a b c d p q u v w) := by
  have HS1 := l4TurnZ_det a b c d p q ha hb hc hd hp hq
  have HS2 := l4TurnZ_det a b c d u v ha hb hc hd hu hv
  have HS3 := l4TurnZ_det p q u v a b hp hq hu hv ha hb
  have HS4 := l4TurnZ_det p q u v c d hp hq hu hv hc hd
  have T0 : ArgsB w ((((w.alloc (.cells #[.int .i64 a, .int .i64 b, .int .i64 c, .int .i64 d] 63)).alloc (.cells #[.int .i64 p, .int .i64 q, .int .i64 u, .int .i64 v] 63)).alloc (.cells #[.bool false, .slice none 0 0, .bool false, .slice none 0 0, .bool false, .slice none 0 0] 59)).alloc (.cells #[.bool false, .slice none 0 0, .bool false, .slice none 0 0, .bool false, .slice none 0 0] 59)) [[.int .i64 a, .int .i64 b, .int .i64 c, .int .i64 d], [.int .i64 p, .int .i64 q, .int .i64 u, .int .i64 v], [.bool false, .slice none 0 0, .bool false, .slice none 0 0, .bool false, .slice none 0 0], [.bool false, .slice none 0 0, .bool false, .slice none 0 0, .bool false, .slice none 0 0]] := ar4 _ _ _ _ _ _ _ _ w
  go_enter Try.func27, Try.ntmps27
  go_upto_region 1 with fail
  generalize ((((w.alloc (.cells #[.int .i64 a, .int .i64 b, .int .i64 c, .int .i64 d] 63)).alloc (.cells #[.int .i64 p, .int .i64 q, .int .i64 u, .int .i64 v] 63)).alloc (.cells #[.bool false, .slice none 0 0, .bool false, .slice none 0 0, .bool false, .slice none 0 0] 59)).alloc (.cells #[.bool false, .slice none 0 0, .bool false, .slice none 0 0, .bool false, .slice none 0 0] 59)) = W at *
  have Y0 : Blk _ w.heap.size _ := T0.b 0 rfl; have Y1 : Blk _ (w.heap.size + 1) _ := T0.b 1 rfl; obtain ⟨sc0, sc1, sc2, sc3⟩ := Y0.cs4; obtain ⟨tc0, tc1, tc2, tc3⟩ := Y1.cs4; clear Y0 Y1
  go_wp2_with fail
  refine (HS1 _).mono ?_
  rintro e w1 ⟨rfl, hB⟩
  replace T0 := T0.step hB
  clear hB sc0 tc0 sc1 tc1 sc2 tc2 sc3 tc3
  have Y0 : Blk _ w.heap.size _ := T0.b 0 rfl; have Y1 : Blk _ (w.heap.size + 1) _ := T0.b 1 rfl; obtain ⟨sc0, sc1, sc2, sc3⟩ := Y0.cs4; obtain ⟨tc0, tc1, tc2, tc3⟩ := Y1.cs4; clear Y0 Y1
  go_wp2_with fail
  refine (HS2 _).mono ?_
  rintro e w2 ⟨rfl, hB⟩
  replace T0 := T0.step hB
  clear hB sc0 tc0 sc1 tc1 sc2 tc2 sc3 tc3
  have Y0 : Blk _ w.heap.size _ := T0.b 0 rfl; have Y1 : Blk _ (w.heap.size + 1) _ := T0.b 1 rfl; obtain ⟨sc0, sc1, sc2, sc3⟩ := Y0.cs4; obtain ⟨tc0, tc1, tc2, tc3⟩ := Y1.cs4; clear Y0 Y1
  go_wp2_with fail
  refine (HS3 _).mono ?_
  rintro e w3 ⟨rfl, hB⟩
  replace T0 := T0.step hB
  clear hB sc0 tc0 sc1 tc1 sc2 tc2 sc3 tc3
  have Y0 : Blk _ w.heap.size _ := T0.b 0 rfl; have Y1 : Blk _ (w.heap.size + 1) _ := T0.b 1 rfl; obtain ⟨sc0, sc1, sc2, sc3⟩ := Y0.cs4; obtain ⟨tc0, tc1, tc2, tc3⟩ := Y1.cs4; clear Y0 Y1
  go_wp2_with fail
  refine (HS4 _).mono ?_
  rintro e w4 ⟨rfl, hB⟩
  replace T0 := T0.step hB
  clear hB sc0 tc0 sc1 tc1 sc2 tc2 sc3 tc3
  obtain ⟨hz1, hz2⟩ := hb0
  have z1 : (sgZ (turnZ a b c d p q) == 0) = true := by rw [hz1]; rfl
  have z2 : (sgZ (turnZ a b c d u v) == 0) = true := by rw [hz2]; rfl
  have HW : Hid (meetW a b c d p q u v = alongV a b c d p q u v) := meet_along hz1 hz2
  have HT : Hid (turnZ a b c d p q = 0) := hz1
  clear hz1 hz2 HS1 HS2 HS3 HS4
  generalize sgZ (turnZ a b c d p q) = s1 at *
  generalize sgZ (turnZ a b c d u v) = s2 at *
  generalize sgZ (turnZ p q u v a b) = s3 at *
  generalize sgZ (turnZ p q u v c d) = s4 at *
  have BS : Blk _ w.heap.size _ := T0.b 0 rfl; have BT : Blk _ (w.heap.size + 1) _ := T0.b 1 rfl; have BP : Blk _ (w.heap.size + 1 + 1) _ := T0.b 2 rfl; have BQ : Blk _ (w.heap.size + 1 + 1 + 1) _ := T0.b 3 rfl; have HB := T0.below
  clear T0
  have hgFx : (w.heap.size + 1 + 1 + 1) < w4.heap.size := BQ.lt
  obtain ⟨sc0, sc1, sc2, sc3⟩ := BS.cs4; have sl := BS.lt; obtain ⟨tc0, tc1, tc2, tc3⟩ := BT.cs4; have tl := BT.lt
  have gFh := HB.size
  go_wp2_with fail
  refine (l4Less_any a b p q _ rfl _).mono ?_
  rintro e a1 ⟨rfl, hB⟩
  replace BS := (BS.alloc (.cells #[.int .i64 a, .int .i64 b] 54)).step hB
  replace BT := (BT.alloc (.cells #[.int .i64 a, .int .i64 b] 54)).step hB
  replace BP := (BP.alloc (.cells #[.int .i64 a, .int .i64 b] 54)).step hB
  replace BQ := (BQ.alloc (.cells #[.int .i64 a, .int .i64 b] 54)).step hB
  have BF := (Blk.new w4 [.int .i64 a, .int .i64 b] 54 rfl).step hB
  replace HB := (HB.alloc HB.size (.cells #[.int .i64 a, .int .i64 b] 54)).trans (hB.mono (HB.alloc HB.size (.cells #[.int .i64 a, .int .i64 b] 54)).size)
  clear hB sc0 sc1 sc2 sc3 sl tc0 tc1 tc2 tc3 tl
  generalize w4.heap.size = gF at *
  by_cases h1 : lessI a b p q = true
  · rw [h1]
    have H1 : Hid (lessI a b p q = true) := h1
    clear h1
    obtain ⟨sc0, sc1, sc2, sc3⟩ := BS.cs4; have sl := BS.lt; obtain ⟨tc0, tc1, tc2, tc3⟩ := BT.cs4; have tl := BT.lt; obtain ⟨fc0, ff0, fc1, ff1⟩ := BF.cf2; have fl := BF.lt
    go_upto_region 9 with fail
    clear sc0 sc1 sc2 sc3 sl tc0 tc1 tc2 tc3 tl fc0 ff0 fc1 ff1 fl
    replace BF := BF.stored2 (.int .i64 p) (.int .i64 q)
    replace BS : Blk ((a1.setCell ⟨gF, 0, none⟩ (.int .i64 p)).setCell ⟨gF, 1, none⟩ (.int .i64 q)) _ _ := BS.set2 (by omega)
    replace BT : Blk ((a1.setCell ⟨gF, 0, none⟩ (.int .i64 p)).setCell ⟨gF, 1, none⟩ (.int .i64 q)) _ _ := BT.set2 (by omega)
    replace BP : Blk ((a1.setCell ⟨gF, 0, none⟩ (.int .i64 p)).setCell ⟨gF, 1, none⟩ (.int .i64 q)) _ _ := BP.set2 (by omega)
    replace BQ : Blk ((a1.setCell ⟨gF, 0, none⟩ (.int .i64 p)).setCell ⟨gF, 1, none⟩ (.int .i64 q)) _ _ := BQ.set2 (by omega)
    replace HB : Below w.heap.size w ((a1.setCell ⟨gF, 0, none⟩ (.int .i64 p)).setCell ⟨gF, 1, none⟩ (.int .i64 q)) := Below.setCell (Below.setCell HB (by show _ ≤ gF; omega) _) (by show _ ≤ gF; omega) _
    generalize ((a1.setCell ⟨gF, 0, none⟩ (.int .i64 p)).setCell ⟨gF, 1, none⟩ (.int .i64 q)) = WN at *
    have hgLx : (w.heap.size + 1 + 1 + 1) < WN.heap.size := BQ.lt
    have hgL : gF < WN.heap.size := BF.lt
    obtain ⟨sc0, sc1, sc2, sc3⟩ := BS.cs4; have sl := BS.lt; obtain ⟨tc0, tc1, tc2, tc3⟩ := BT.cs4; have tl := BT.lt; obtain ⟨fc0, ff0, fc1, ff1⟩ := BF.cf2; have fl := BF.lt
    have gLh := HB.size
    go_wp2_with fail
    refine (l4Less_any u v c d _ rfl _).mono ?_
    rintro e a2 ⟨rfl, hB⟩
    replace BS := (BS.alloc (.cells #[.int .i64 c, .int .i64 d] 54)).step hB
    replace BT := (BT.alloc (.cells #[.int .i64 c, .int .i64 d] 54)).step hB
    replace BF := (BF.alloc (.cells #[.int .i64 c, .int .i64 d] 54)).step hB
    replace BP := (BP.alloc (.cells #[.int .i64 c, .int .i64 d] 54)).step hB
    replace BQ := (BQ.alloc (.cells #[.int .i64 c, .int .i64 d] 54)).step hB
    have BL := (Blk.new WN [.int .i64 c, .int .i64 d] 54 rfl).step hB
    replace HB := (HB.alloc HB.size (.cells #[.int .i64 c, .int .i64 d] 54)).trans (hB.mono (HB.alloc HB.size (.cells #[.int .i64 c, .int .i64 d] 54)).size)
    clear hB sc0 sc1 sc2 sc3 sl tc0 tc1 tc2 tc3 tl fc0 ff0 fc1 ff1 fl
    have hgL2 : (w.heap.size + 1 + 1 + 1) < WN.heap.size := hgLx
    generalize WN.heap.size = gL at *
    by_cases h2 : lessI u v c d = true
    · rw [h2]
      have H2 : Hid (lessI u v c d = true) := h2
      clear h2
      obtain ⟨sc0, sc1, sc2, sc3⟩ := BS.cs4; have sl := BS.lt; obtain ⟨tc0, tc1, tc2, tc3⟩ := BT.cs4; have tl := BT.lt; obtain ⟨fc0, ff0, fc1, ff1⟩ := BF.cf2; have fl := BF.lt; obtain ⟨lc0, lf0, lc1, lf1⟩ := BL.cf2; have ll := BL.lt
      go_upto_region 12 with fail
      clear sc0 sc1 sc2 sc3 sl tc0 tc1 tc2 tc3 tl fc0 ff0 fc1 ff1 fl lc0 lf0 lc1 lf1 ll
      replace BL := BL.stored2 (.int .i64 u) (.int .i64 v)
      replace BF : Blk ((a2.setCell ⟨gL, 0, none⟩ (.int .i64 u)).setCell ⟨gL, 1, none⟩ (.int .i64 v)) _ _ := BF.set2 (by omega)
      replace BS : Blk ((a2.setCell ⟨gL, 0, none⟩ (.int .i64 u)).setCell ⟨gL, 1, none⟩ (.int .i64 v)) _ _ := BS.set2 (by omega)
      replace BT : Blk ((a2.setCell ⟨gL, 0, none⟩ (.int .i64 u)).setCell ⟨gL, 1, none⟩ (.int .i64 v)) _ _ := BT.set2 (by omega)
      replace BP : Blk ((a2.setCell ⟨gL, 0, none⟩ (.int .i64 u)).setCell ⟨gL, 1, none⟩ (.int .i64 v)) _ _ := BP.set2 (by omega)
      replace BQ : Blk ((a2.setCell ⟨gL, 0, none⟩ (.int .i64 u)).setCell ⟨gL, 1, none⟩ (.int .i64 v)) _ _ := BQ.set2 (by omega)
      replace HB : Below w.heap.size w ((a2.setCell ⟨gL, 0, none⟩ (.int .i64 u)).setCell ⟨gL, 1, none⟩ (.int .i64 v)) := Below.setCell (Below.setCell HB (by show _ ≤ gL; omega) _) (by show _ ≤ gL; omega) _
      generalize ((a2.setCell ⟨gL, 0, none⟩ (.int .i64 u)).setCell ⟨gL, 1, none⟩ (.int .i64 v)) = WN2 at *
      obtain ⟨sc0, sc1, sc2, sc3⟩ := BS.cs4; have sl := BS.lt; obtain ⟨tc0, tc1, tc2, tc3⟩ := BT.cs4; have tl := BT.lt; obtain ⟨fc0, ff0, fc1, ff1⟩ := BF.cf2; have fl := BF.lt; obtain ⟨lc0, lf0, lc1, lf1⟩ := BL.cf2; have ll := BL.lt
      go_wp2_with fail
      refine (l4Less_any u v p q _ rfl _).mono ?_
      rintro e a3 ⟨rfl, hB⟩
      replace BS := BS.step hB
      replace BT := BT.step hB
      replace BF := BF.step hB
      replace BL := BL.step hB
      replace BP := BP.step hB
      replace BQ := BQ.step hB
      replace HB := HB.trans (hB.mono HB.size)
      clear hB sc0 sc1 sc2 sc3 sl tc0 tc1 tc2 tc3 tl fc0 ff0 fc1 ff1 fl lc0 lf0 lc1 lf1 ll
      by_cases hA : lessI u v p q = true
      · rw [hA]
        have HO : Hid (meetW a b c d p q u v = .tuple #[.int .i64 0, .agg #[.int .u64 0, .int .u64 0, .int .u64 0, .int .u64 0, .int .u64 0, .int .u64 0, .int .u64 0, .int .u64 0, .int .u64 0, .int .u64 0, .int .u64 0, .int .u64 0], .agg #[.int .u64 0, .int .u64 0, .int .u64 0, .int .u64 0, .int .u64 0, .int .u64 0, .int .u64 0, .int .u64 0, .int .u64 0, .int .u64 0, .int .u64 0, .int .u64 0]]) := by show _ = _; rw [HW.out]; unfold alongV; rw [show (if lessI a b p q = true then p else a) = p by rw [H1.out]; rfl, show (if lessI a b p q = true then q else b) = q by rw [H1.out]; rfl, show (if lessI u v c d = true then u else c) = u by rw [H2.out]; rfl, show (if lessI u v c d = true then v else d) = v by rw [H2.out]; rfl, if_pos (Or.inr hA)]
        clear hA BS BT BF BL
        obtain ⟨xc0, xf0, xc1, xf1, xc2, xf2, xc3, xf3, xc4, xf4, xc5, xf5⟩ := BP.cf6; have xl := BP.lt; obtain ⟨yc0, yf0, yc1, yf1, yc2, yf2, yc3, yf3, yc4, yf4, yc5, yf5⟩ := BQ.cf6; have yl := BQ.lt
        go_wp2
        refine bodyPost_ret (v := .tuple #[.int .i64 0, .agg #[.bool false, .slice none 0 0, .bool false, .slice none 0 0, .bool false, .slice none 0 0], .agg #[.bool false, .slice none 0 0, .bool false, .slice none 0 0, .bool false, .slice none 0 0]]) (by simp [results, Try.results27, go_sem, xc0, yc0, xc1, yc1, xc2, yc2, xc3, yc3, xc4, yc4, xc5, yc5]) rfl ?_
        refine ⟨?_, Or.inl ⟨HO.out, rfl⟩⟩
        repeat' (refine Below.setCell ?_ (by simp; try omega) _)
        exact HB
      · have hA' := Bool.eq_false_iff.2 hA
        rw [hA']
        have EQ := eqSp p q u v
        by_cases hE : p = u ∧ q = v
        · have HO : Hid (meetW a b c d p q u v = .tuple #[.int .i64 1, .agg #[.int .u64 (ww3 p), .int .u64 (ww2 p), .int .u64 (ww1 p), .int .u64 (ww0 p), .int .u64 (ww3 q), .int .u64 (ww2 q), .int .u64 (ww1 q), .int .u64 (ww0 q), .int .u64 (ww3 1), .int .u64 (ww2 1), .int .u64 (ww1 1), .int .u64 (ww0 1)], .agg #[.int .u64 0, .int .u64 0, .int .u64 0, .int .u64 0, .int .u64 0, .int .u64 0, .int .u64 0, .int .u64 0, .int .u64 0, .int .u64 0, .int .u64 0, .int .u64 0]]) := by show _ = _; rw [HW.out]; unfold alongV; rw [show (if lessI a b p q = true then p else a) = p by rw [H1.out]; rfl, show (if lessI a b p q = true then q else b) = q by rw [H1.out]; rfl, show (if lessI u v c d = true then u else c) = u by rw [H2.out]; rfl, show (if lessI u v c d = true then v else d) = v by rw [H2.out]; rfl, if_neg (by rw [hA']; rintro (h | h); exact h HT.out; cases h), if_pos hE]
          rw [show (decide (p = u) && decide (q = v)) = true by rw [hE.1, hE.2]; simp] at EQ
          have PO := l3Spot_det p q (by omega) (by omega)
          clear hA hA' hE
          obtain ⟨sc0, sc1, sc2, sc3⟩ := BS.cs4; have sl := BS.lt; obtain ⟨tc0, tc1, tc2, tc3⟩ := BT.cs4; have tl := BT.lt; obtain ⟨fc0, ff0, fc1, ff1⟩ := BF.cf2; have fl := BF.lt; obtain ⟨lc0, lf0, lc1, lf1⟩ := BL.cf2; have ll := BL.lt
          go_wp2_with fail
          refine (PO _).mono ?_
          rintro e a4 ⟨js1, jo1, jn1, jc1, jd1, js2, jo2, jn2, jc2, jd2, js3, jo3, jn3, jc3, jd3, rfl, Nj1, Nj2, Nj3, hB⟩
          replace BP := BP.step hB; replace BQ := BQ.step hB; replace HB := HB.trans (hB.mono HB.size)
          clear hB sc0 sc1 sc2 sc3 sl tc0 tc1 tc2 tc3 tl fc0 ff0 fc1 ff1 fl lc0 lf0 lc1 lf1 ll BS BT BF BL PO EQ
          obtain ⟨xc0, xf0, xc1, xf1, xc2, xf2, xc3, xf3, xc4, xf4, xc5, xf5⟩ := BP.cf6; have xl := BP.lt; obtain ⟨yc0, yf0, yc1, yf1, yc2, yf2, yc3, yf3, yc4, yf4, yc5, yf5⟩ := BQ.cf6; have yl := BQ.lt
          have BQ6 := BQ.set6 (g := (w.heap.size + 1 + 1)) (v0 := .bool js1) (v1 := .slice jo1 jn1 jc1) (v2 := .bool js2) (v3 := .slice jo2 jn2 jc2) (v4 := .bool js3) (v5 := .slice jo3 jn3 jc3) (by omega)
          go_wp2
          refine bodyPost_ret (v := .tuple #[.int .i64 1, .agg #[.bool js1, .slice jo1 jn1 jc1, .bool js2, .slice jo2 jn2 jc2, .bool js3, .slice jo3 jn3 jc3], .agg #[.bool false, .slice none 0 0, .bool false, .slice none 0 0, .bool false, .slice none 0 0]]) (by simp [results, Try.results27, go_sem, xc0, yc0, xc1, yc1, xc2, yc2, xc3, yc3, xc4, yc4, xc5, yc5]) rfl ?_
          refine ⟨?_, Or.inr (Or.inl ⟨p, q, 1, _, HO.out, small_int (by omega) (by omega), small_int (by omega) (by omega), small_int (by omega) (by omega), rfl, js1, jo1, jn1, jc1, jd1, js2, jo2, jn2, jc2, jd2, js3, jo3, jn3, jc3, jd3, rfl, ?_, ?_, ?_⟩)⟩
          · repeat' (refine Below.setCell ?_ (by simp; try omega) _)
            exact HB
          · exact num_set6 (num_set6 Nj1 BP (.bool js1) (.slice jo1 jn1 jc1) (.bool js2) (.slice jo2 jn2 jc2) (.bool js3) (.slice jo3 jn3 jc3)) BQ6 (.bool false) (.slice none 0 0) (.bool false) (.slice none 0 0) (.bool false) (.slice none 0 0)
          · exact num_set6 (num_set6 Nj2 BP (.bool js1) (.slice jo1 jn1 jc1) (.bool js2) (.slice jo2 jn2 jc2) (.bool js3) (.slice jo3 jn3 jc3)) BQ6 (.bool false) (.slice none 0 0) (.bool false) (.slice none 0 0) (.bool false) (.slice none 0 0)
          · exact num_set6 (num_set6 Nj3 BP (.bool js1) (.slice jo1 jn1 jc1) (.bool js2) (.slice jo2 jn2 jc2) (.bool js3) (.slice jo3 jn3 jc3)) BQ6 (.bool false) (.slice none 0 0) (.bool false) (.slice none 0 0) (.bool false) (.slice none 0 0)
        · have HO : Hid (meetW a b c d p q u v = .tuple #[.int .i64 2, .agg #[.int .u64 (ww3 p), .int .u64 (ww2 p), .int .u64 (ww1 p), .int .u64 (ww0 p), .int .u64 (ww3 q), .int .u64 (ww2 q), .int .u64 (ww1 q), .int .u64 (ww0 q), .int .u64 (ww3 1), .int .u64 (ww2 1), .int .u64 (ww1 1), .int .u64 (ww0 1)], .agg #[.int .u64 (ww3 u), .int .u64 (ww2 u), .int .u64 (ww1 u), .int .u64 (ww0 u), .int .u64 (ww3 v), .int .u64 (ww2 v), .int .u64 (ww1 v), .int .u64 (ww0 v), .int .u64 (ww3 1), .int .u64 (ww2 1), .int .u64 (ww1 1), .int .u64 (ww0 1)]]) := by show _ = _; rw [HW.out]; unfold alongV; rw [show (if lessI a b p q = true then p else a) = p by rw [H1.out]; rfl, show (if lessI a b p q = true then q else b) = q by rw [H1.out]; rfl, show (if lessI u v c d = true then u else c) = u by rw [H2.out]; rfl, show (if lessI u v c d = true then v else d) = v by rw [H2.out]; rfl, if_neg (by rw [hA']; rintro (h | h); exact h HT.out; cases h), if_neg hE]
          rw [show (decide (p = u) && decide (q = v)) = false by rw [← Bool.decide_and]; exact decide_eq_false hE] at EQ
          have PO := l3Spot_det p q (by omega) (by omega)
          have PL := l3Spot_det u v (by omega) (by omega)
          clear hA hA' hE BS BT
          have tok1 : True := trivial
          obtain ⟨fc0, ff0, fc1, ff1⟩ := BF.cf2; have fl := BF.lt; obtain ⟨lc0, lf0, lc1, lf1⟩ := BL.cf2; have ll := BL.lt
          go_upto_region 16 with fail
          clear fc0 ff0 fc1 ff1 fl lc0 lf0 lc1 lf1 ll EQ
          go_region_held3 (fun w' => w'.cell? ⟨gF, 0, none⟩ = some (.int .i64 p) ∧ w'.cell? ⟨gF, 1, none⟩ = some (.int .i64 q) ∧ w'.cell? ⟨gL, 0, none⟩ = some (.int .i64 u) ∧ w'.cell? ⟨gL, 1, none⟩ = some (.int .i64 v)) ((refine al_cells ?_ ?_ <;> repeat (first | (with_reducible exact BF) | (with_reducible exact BL) | (with_reducible refine Blk.drew ?_) | (with_reducible refine Blk.set6 ?_ (by omega)))))
            (first
              | (go_at_call 38; have _t := tok1; refine (PO _).mono ?_; rintro e a5 ⟨js1, jo1, jn1, jc1, jd1, js2, jo2, jn2, jc2, jd2, js3, jo3, jn3, jc3, jd3, rfl, Nj1, Nj2, Nj3, hB⟩; (first | (replace BF := BF.step hB; replace BL := BL.step hB; replace BP := BP.step hB; replace BQ := BQ.step hB; replace HB := HB.trans (hB.mono HB.size)) | (replace BF := BF.drew.step hB; replace BL := BL.drew.step hB; replace BP := BP.drew.step hB; replace BQ := BQ.drew.step hB; replace HB := HB.drew.trans (hB.mono HB.drew.size))); clear hB; clear tok1 _t)
              | (go_at_call 38; refine (PL _).mono ?_; rintro e a6 ⟨ks1, ko1, kn1, kc1, kd1, ks2, ko2, kn2, kc2, kd2, ks3, ko3, kn3, kc3, kd3, rfl, Nk1, Nk2, Nk3, hB⟩; (first | (replace BF := BF.step hB; replace BL := BL.step hB; replace BP := BP.step hB; replace BQ := BQ.step hB; replace HB := HB.trans (hB.mono HB.size)) | (replace BF := BF.drew.step hB; replace BL := BL.drew.step hB; replace BP := BP.drew.step hB; replace BQ := BQ.drew.step hB; replace HB := HB.drew.trans (hB.mono HB.drew.size))); replace Nj1 := Nj1.below hB; replace Nj2 := Nj2.below hB; replace Nj3 := Nj3.below hB; clear hB; obtain ⟨xc0, xf0, xc1, xf1, xc2, xf2, xc3, xf3, xc4, xf4, xc5, xf5⟩ := BP.cf6; have xl := BP.lt; obtain ⟨yc0, yf0, yc1, yf1, yc2, yf2, yc3, yf3, yc4, yf4, yc5, yf5⟩ := BQ.cf6; have yl := BQ.lt))
          all_goals clear BF BL PO PL
          all_goals (
            have BQ6 := BQ.set6 (g := (w.heap.size + 1 + 1)) (v0 := .bool js1) (v1 := .slice jo1 jn1 jc1) (v2 := .bool js2) (v3 := .slice jo2 jn2 jc2) (v4 := .bool js3) (v5 := .slice jo3 jn3 jc3) (by omega)
            go_wp2
            refine bodyPost_ret (v := .tuple #[.int .i64 2, .agg #[.bool js1, .slice jo1 jn1 jc1, .bool js2, .slice jo2 jn2 jc2, .bool js3, .slice jo3 jn3 jc3], .agg #[.bool ks1, .slice ko1 kn1 kc1, .bool ks2, .slice ko2 kn2 kc2, .bool ks3, .slice ko3 kn3 kc3]]) (by simp [results, Try.results27, go_sem, xc0, yc0, xc1, yc1, xc2, yc2, xc3, yc3, xc4, yc4, xc5, yc5]) rfl ?_
            refine ⟨?_, Or.inr (Or.inr ⟨p, q, u, v, _, _, HO.out, small_int (by omega) (by omega), small_int (by omega) (by omega), small_int (by omega) (by omega), small_int (by omega) (by omega), rfl, ⟨js1, jo1, jn1, jc1, jd1, js2, jo2, jn2, jc2, jd2, js3, jo3, jn3, jc3, jd3, rfl, ?_, ?_, ?_⟩, ks1, ko1, kn1, kc1, kd1, ks2, ko2, kn2, kc2, kd2, ks3, ko3, kn3, kc3, kd3, rfl, ?_, ?_, ?_⟩)⟩
            · repeat' (refine Below.setCell ?_ (by simp; try omega) _)
              first | exact HB | exact HB.drew
            · first | exact num_set6 (num_set6 Nj1 BP (.bool js1) (.slice jo1 jn1 jc1) (.bool js2) (.slice jo2 jn2 jc2) (.bool js3) (.slice jo3 jn3 jc3)) BQ6 (.bool ks1) (.slice ko1 kn1 kc1) (.bool ks2) (.slice ko2 kn2 kc2) (.bool ks3) (.slice ko3 kn3 kc3) | exact num_set6 (num_set6 Nj1.drew BP (.bool js1) (.slice jo1 jn1 jc1) (.bool js2) (.slice jo2 jn2 jc2) (.bool js3) (.slice jo3 jn3 jc3)) BQ6 (.bool ks1) (.slice ko1 kn1 kc1) (.bool ks2) (.slice ko2 kn2 kc2) (.bool ks3) (.slice ko3 kn3 kc3)
            · first | exact num_set6 (num_set6 Nj2 BP (.bool js1) (.slice jo1 jn1 jc1) (.bool js2) (.slice jo2 jn2 jc2) (.bool js3) (.slice jo3 jn3 jc3)) BQ6 (.bool ks1) (.slice ko1 kn1 kc1) (.bool ks2) (.slice ko2 kn2 kc2) (.bool ks3) (.slice ko3 kn3 kc3) | exact num_set6 (num_set6 Nj2.drew BP (.bool js1) (.slice jo1 jn1 jc1) (.bool js2) (.slice jo2 jn2 jc2) (.bool js3) (.slice jo3 jn3 jc3)) BQ6 (.bool ks1) (.slice ko1 kn1 kc1) (.bool ks2) (.slice ko2 kn2 kc2) (.bool ks3) (.slice ko3 kn3 kc3)
            · first | exact num_set6 (num_set6 Nj3 BP (.bool js1) (.slice jo1 jn1 jc1) (.bool js2) (.slice jo2 jn2 jc2) (.bool js3) (.slice jo3 jn3 jc3)) BQ6 (.bool ks1) (.slice ko1 kn1 kc1) (.bool ks2) (.slice ko2 kn2 kc2) (.bool ks3) (.slice ko3 kn3 kc3) | exact num_set6 (num_set6 Nj3.drew BP (.bool js1) (.slice jo1 jn1 jc1) (.bool js2) (.slice jo2 jn2 jc2) (.bool js3) (.slice jo3 jn3 jc3)) BQ6 (.bool ks1) (.slice ko1 kn1 kc1) (.bool ks2) (.slice ko2 kn2 kc2) (.bool ks3) (.slice ko3 kn3 kc3)
            · first | exact num_set6 (num_set6 Nk1 BP (.bool js1) (.slice jo1 jn1 jc1) (.bool js2) (.slice jo2 jn2 jc2) (.bool js3) (.slice jo3 jn3 jc3)) BQ6 (.bool ks1) (.slice ko1 kn1 kc1) (.bool ks2) (.slice ko2 kn2 kc2) (.bool ks3) (.slice ko3 kn3 kc3) | exact num_set6 (num_set6 Nk1.drew BP (.bool js1) (.slice jo1 jn1 jc1) (.bool js2) (.slice jo2 jn2 jc2) (.bool js3) (.slice jo3 jn3 jc3)) BQ6 (.bool ks1) (.slice ko1 kn1 kc1) (.bool ks2) (.slice ko2 kn2 kc2) (.bool ks3) (.slice ko3 kn3 kc3)
            · first | exact num_set6 (num_set6 Nk2 BP (.bool js1) (.slice jo1 jn1 jc1) (.bool js2) (.slice jo2 jn2 jc2) (.bool js3) (.slice jo3 jn3 jc3)) BQ6 (.bool ks1) (.slice ko1 kn1 kc1) (.bool ks2) (.slice ko2 kn2 kc2) (.bool ks3) (.slice ko3 kn3 kc3) | exact num_set6 (num_set6 Nk2.drew BP (.bool js1) (.slice jo1 jn1 jc1) (.bool js2) (.slice jo2 jn2 jc2) (.bool js3) (.slice jo3 jn3 jc3)) BQ6 (.bool ks1) (.slice ko1 kn1 kc1) (.bool ks2) (.slice ko2 kn2 kc2) (.bool ks3) (.slice ko3 kn3 kc3)
            · first | exact num_set6 (num_set6 Nk3 BP (.bool js1) (.slice jo1 jn1 jc1) (.bool js2) (.slice jo2 jn2 jc2) (.bool js3) (.slice jo3 jn3 jc3)) BQ6 (.bool ks1) (.slice ko1 kn1 kc1) (.bool ks2) (.slice ko2 kn2 kc2) (.bool ks3) (.slice ko3 kn3 kc3) | exact num_set6 (num_set6 Nk3.drew BP (.bool js1) (.slice jo1 jn1 jc1) (.bool js2) (.slice jo2 jn2 jc2) (.bool js3) (.slice jo3 jn3 jc3)) BQ6 (.bool ks1) (.slice ko1 kn1 kc1) (.bool ks2) (.slice ko2 kn2 kc2) (.bool ks3) (.slice ko3 kn3 kc3))
    · have h2' := Bool.eq_false_iff.2 h2
      rw [h2']
      have H2 : Hid (lessI u v c d = false) := h2'
      clear h2 h2'
      obtain ⟨sc0, sc1, sc2, sc3⟩ := BS.cs4; have sl := BS.lt; obtain ⟨tc0, tc1, tc2, tc3⟩ := BT.cs4; have tl := BT.lt; obtain ⟨fc0, ff0, fc1, ff1⟩ := BF.cf2; have fl := BF.lt; obtain ⟨lc0, lf0, lc1, lf1⟩ := BL.cf2; have ll := BL.lt
      go_wp2_with fail
      refine (l4Less_any c d p q _ rfl _).mono ?_
      rintro e a7 ⟨rfl, hB⟩
      replace BS := BS.step hB
      replace BT := BT.step hB
      replace BF := BF.step hB
      replace BL := BL.step hB
      replace BP := BP.step hB
      replace BQ := BQ.step hB
      replace HB := HB.trans (hB.mono HB.size)
      clear hB sc0 sc1 sc2 sc3 sl tc0 tc1 tc2 tc3 tl fc0 ff0 fc1 ff1 fl lc0 lf0 lc1 lf1 ll
      by_cases hA : lessI c d p q = true
      · rw [hA]
        have HO : Hid (meetW a b c d p q u v = .tuple #[.int .i64 0, .agg #[.int .u64 0, .int .u64 0, .int .u64 0, .int .u64 0, .int .u64 0, .int .u64 0, .int .u64 0, .int .u64 0, .int .u64 0, .int .u64 0, .int .u64 0, .int .u64 0], .agg #[.int .u64 0, .int .u64 0, .int .u64 0, .int .u64 0, .int .u64 0, .int .u64 0, .int .u64 0, .int .u64 0, .int .u64 0, .int .u64 0, .int .u64 0, .int .u64 0]]) := by show _ = _; rw [HW.out]; unfold alongV; rw [show (if lessI a b p q = true then p else a) = p by rw [H1.out]; rfl, show (if lessI a b p q = true then q else b) = q by rw [H1.out]; rfl, show (if lessI u v c d = true then u else c) = c by rw [H2.out]; rfl, show (if lessI u v c d = true then v else d) = d by rw [H2.out]; rfl, if_pos (Or.inr hA)]
        clear hA BS BT BF BL
        obtain ⟨xc0, xf0, xc1, xf1, xc2, xf2, xc3, xf3, xc4, xf4, xc5, xf5⟩ := BP.cf6; have xl := BP.lt; obtain ⟨yc0, yf0, yc1, yf1, yc2, yf2, yc3, yf3, yc4, yf4, yc5, yf5⟩ := BQ.cf6; have yl := BQ.lt
        go_wp2
        refine bodyPost_ret (v := .tuple #[.int .i64 0, .agg #[.bool false, .slice none 0 0, .bool false, .slice none 0 0, .bool false, .slice none 0 0], .agg #[.bool false, .slice none 0 0, .bool false, .slice none 0 0, .bool false, .slice none 0 0]]) (by simp [results, Try.results27, go_sem, xc0, yc0, xc1, yc1, xc2, yc2, xc3, yc3, xc4, yc4, xc5, yc5]) rfl ?_
        refine ⟨?_, Or.inl ⟨HO.out, rfl⟩⟩
        repeat' (refine Below.setCell ?_ (by simp; try omega) _)
        exact HB
      · have hA' := Bool.eq_false_iff.2 hA
        rw [hA']
        have EQ := eqSp p q c d
        by_cases hE : p = c ∧ q = d
        · have HO : Hid (meetW a b c d p q u v = .tuple #[.int .i64 1, .agg #[.int .u64 (ww3 p), .int .u64 (ww2 p), .int .u64 (ww1 p), .int .u64 (ww0 p), .int .u64 (ww3 q), .int .u64 (ww2 q), .int .u64 (ww1 q), .int .u64 (ww0 q), .int .u64 (ww3 1), .int .u64 (ww2 1), .int .u64 (ww1 1), .int .u64 (ww0 1)], .agg #[.int .u64 0, .int .u64 0, .int .u64 0, .int .u64 0, .int .u64 0, .int .u64 0, .int .u64 0, .int .u64 0, .int .u64 0, .int .u64 0, .int .u64 0, .int .u64 0]]) := by show _ = _; rw [HW.out]; unfold alongV; rw [show (if lessI a b p q = true then p else a) = p by rw [H1.out]; rfl, show (if lessI a b p q = true then q else b) = q by rw [H1.out]; rfl, show (if lessI u v c d = true then u else c) = c by rw [H2.out]; rfl, show (if lessI u v c d = true then v else d) = d by rw [H2.out]; rfl, if_neg (by rw [hA']; rintro (h | h); exact h HT.out; cases h), if_pos hE]
          rw [show (decide (p = c) && decide (q = d)) = true by rw [hE.1, hE.2]; simp] at EQ
          have PO := l3Spot_det p q (by omega) (by omega)
          clear hA hA' hE
          obtain ⟨sc0, sc1, sc2, sc3⟩ := BS.cs4; have sl := BS.lt; obtain ⟨tc0, tc1, tc2, tc3⟩ := BT.cs4; have tl := BT.lt; obtain ⟨fc0, ff0, fc1, ff1⟩ := BF.cf2; have fl := BF.lt; obtain ⟨lc0, lf0, lc1, lf1⟩ := BL.cf2; have ll := BL.lt
          go_wp2_with fail
          refine (PO _).mono ?_
          rintro e a8 ⟨js1, jo1, jn1, jc1, jd1, js2, jo2, jn2, jc2, jd2, js3, jo3, jn3, jc3, jd3, rfl, Nj1, Nj2, Nj3, hB⟩
          replace BP := BP.step hB; replace BQ := BQ.step hB; replace HB := HB.trans (hB.mono HB.size)
          clear hB sc0 sc1 sc2 sc3 sl tc0 tc1 tc2 tc3 tl fc0 ff0 fc1 ff1 fl lc0 lf0 lc1 lf1 ll BS BT BF BL PO EQ
          obtain ⟨xc0, xf0, xc1, xf1, xc2, xf2, xc3, xf3, xc4, xf4, xc5, xf5⟩ := BP.cf6; have xl := BP.lt; obtain ⟨yc0, yf0, yc1, yf1, yc2, yf2, yc3, yf3, yc4, yf4, yc5, yf5⟩ := BQ.cf6; have yl := BQ.lt
          have BQ6 := BQ.set6 (g := (w.heap.size + 1 + 1)) (v0 := .bool js1) (v1 := .slice jo1 jn1 jc1) (v2 := .bool js2) (v3 := .slice jo2 jn2 jc2) (v4 := .bool js3) (v5 := .slice jo3 jn3 jc3) (by omega)
          go_wp2
          refine bodyPost_ret (v := .tuple #[.int .i64 1, .agg #[.bool js1, .slice jo1 jn1 jc1, .bool js2, .slice jo2 jn2 jc2, .bool js3, .slice jo3 jn3 jc3], .agg #[.bool false, .slice none 0 0, .bool false, .slice none 0 0, .bool false, .slice none 0 0]]) (by simp [results, Try.results27, go_sem, xc0, yc0, xc1, yc1, xc2, yc2, xc3, yc3, xc4, yc4, xc5, yc5]) rfl ?_
          refine ⟨?_, Or.inr (Or.inl ⟨p, q, 1, _, HO.out, small_int (by omega) (by omega), small_int (by omega) (by omega), small_int (by omega) (by omega), rfl, js1, jo1, jn1, jc1, jd1, js2, jo2, jn2, jc2, jd2, js3, jo3, jn3, jc3, jd3, rfl, ?_, ?_, ?_⟩)⟩
          · repeat' (refine Below.setCell ?_ (by simp; try omega) _)
            exact HB
          · exact num_set6 (num_set6 Nj1 BP (.bool js1) (.slice jo1 jn1 jc1) (.bool js2) (.slice jo2 jn2 jc2) (.bool js3) (.slice jo3 jn3 jc3)) BQ6 (.bool false) (.slice none 0 0) (.bool false) (.slice none 0 0) (.bool false) (.slice none 0 0)
          · exact num_set6 (num_set6 Nj2 BP (.bool js1) (.slice jo1 jn1 jc1) (.bool js2) (.slice jo2 jn2 jc2) (.bool js3) (.slice jo3 jn3 jc3)) BQ6 (.bool false) (.slice none 0 0) (.bool false) (.slice none 0 0) (.bool false) (.slice none 0 0)
          · exact num_set6 (num_set6 Nj3 BP (.bool js1) (.slice jo1 jn1 jc1) (.bool js2) (.slice jo2 jn2 jc2) (.bool js3) (.slice jo3 jn3 jc3)) BQ6 (.bool false) (.slice none 0 0) (.bool false) (.slice none 0 0) (.bool false) (.slice none 0 0)
        · have HO : Hid (meetW a b c d p q u v = .tuple #[.int .i64 2, .agg #[.int .u64 (ww3 p), .int .u64 (ww2 p), .int .u64 (ww1 p), .int .u64 (ww0 p), .int .u64 (ww3 q), .int .u64 (ww2 q), .int .u64 (ww1 q), .int .u64 (ww0 q), .int .u64 (ww3 1), .int .u64 (ww2 1), .int .u64 (ww1 1), .int .u64 (ww0 1)], .agg #[.int .u64 (ww3 c), .int .u64 (ww2 c), .int .u64 (ww1 c), .int .u64 (ww0 c), .int .u64 (ww3 d), .int .u64 (ww2 d), .int .u64 (ww1 d), .int .u64 (ww0 d), .int .u64 (ww3 1), .int .u64 (ww2 1), .int .u64 (ww1 1), .int .u64 (ww0 1)]]) := by show _ = _; rw [HW.out]; unfold alongV; rw [show (if lessI a b p q = true then p else a) = p by rw [H1.out]; rfl, show (if lessI a b p q = true then q else b) = q by rw [H1.out]; rfl, show (if lessI u v c d = true then u else c) = c by rw [H2.out]; rfl, show (if lessI u v c d = true then v else d) = d by rw [H2.out]; rfl, if_neg (by rw [hA']; rintro (h | h); exact h HT.out; cases h), if_neg hE]
          rw [show (decide (p = c) && decide (q = d)) = false by rw [← Bool.decide_and]; exact decide_eq_false hE] at EQ
          have PO := l3Spot_det p q (by omega) (by omega)
          have PL := l3Spot_det c d (by omega) (by omega)
          clear hA hA' hE BS BT
          have tok1 : True := trivial
          obtain ⟨fc0, ff0, fc1, ff1⟩ := BF.cf2; have fl := BF.lt; obtain ⟨lc0, lf0, lc1, lf1⟩ := BL.cf2; have ll := BL.lt
          go_upto_region 16 with fail
          clear fc0 ff0 fc1 ff1 fl lc0 lf0 lc1 lf1 ll EQ
          go_region_held3 (fun w' => w'.cell? ⟨gF, 0, none⟩ = some (.int .i64 p) ∧ w'.cell? ⟨gF, 1, none⟩ = some (.int .i64 q) ∧ w'.cell? ⟨gL, 0, none⟩ = some (.int .i64 c) ∧ w'.cell? ⟨gL, 1, none⟩ = some (.int .i64 d)) ((refine al_cells ?_ ?_ <;> repeat (first | (with_reducible exact BF) | (with_reducible exact BL) | (with_reducible refine Blk.drew ?_) | (with_reducible refine Blk.set6 ?_ (by omega)))))
            (first
              | (go_at_call 38; have _t := tok1; refine (PO _).mono ?_; rintro e a9 ⟨js1, jo1, jn1, jc1, jd1, js2, jo2, jn2, jc2, jd2, js3, jo3, jn3, jc3, jd3, rfl, Nj1, Nj2, Nj3, hB⟩; (first | (replace BF := BF.step hB; replace BL := BL.step hB; replace BP := BP.step hB; replace BQ := BQ.step hB; replace HB := HB.trans (hB.mono HB.size)) | (replace BF := BF.drew.step hB; replace BL := BL.drew.step hB; replace BP := BP.drew.step hB; replace BQ := BQ.drew.step hB; replace HB := HB.drew.trans (hB.mono HB.drew.size))); clear hB; clear tok1 _t)
              | (go_at_call 38; refine (PL _).mono ?_; rintro e a10 ⟨ks1, ko1, kn1, kc1, kd1, ks2, ko2, kn2, kc2, kd2, ks3, ko3, kn3, kc3, kd3, rfl, Nk1, Nk2, Nk3, hB⟩; (first | (replace BF := BF.step hB; replace BL := BL.step hB; replace BP := BP.step hB; replace BQ := BQ.step hB; replace HB := HB.trans (hB.mono HB.size)) | (replace BF := BF.drew.step hB; replace BL := BL.drew.step hB; replace BP := BP.drew.step hB; replace BQ := BQ.drew.step hB; replace HB := HB.drew.trans (hB.mono HB.drew.size))); replace Nj1 := Nj1.below hB; replace Nj2 := Nj2.below hB; replace Nj3 := Nj3.below hB; clear hB; obtain ⟨xc0, xf0, xc1, xf1, xc2, xf2, xc3, xf3, xc4, xf4, xc5, xf5⟩ := BP.cf6; have xl := BP.lt; obtain ⟨yc0, yf0, yc1, yf1, yc2, yf2, yc3, yf3, yc4, yf4, yc5, yf5⟩ := BQ.cf6; have yl := BQ.lt))
          all_goals clear BF BL PO PL
          all_goals (
            have BQ6 := BQ.set6 (g := (w.heap.size + 1 + 1)) (v0 := .bool js1) (v1 := .slice jo1 jn1 jc1) (v2 := .bool js2) (v3 := .slice jo2 jn2 jc2) (v4 := .bool js3) (v5 := .slice jo3 jn3 jc3) (by omega)
            go_wp2
            refine bodyPost_ret (v := .tuple #[.int .i64 2, .agg #[.bool js1, .slice jo1 jn1 jc1, .bool js2, .slice jo2 jn2 jc2, .bool js3, .slice jo3 jn3 jc3], .agg #[.bool ks1, .slice ko1 kn1 kc1, .bool ks2, .slice ko2 kn2 kc2, .bool ks3, .slice ko3 kn3 kc3]]) (by simp [results, Try.results27, go_sem, xc0, yc0, xc1, yc1, xc2, yc2, xc3, yc3, xc4, yc4, xc5, yc5]) rfl ?_
            refine ⟨?_, Or.inr (Or.inr ⟨p, q, c, d, _, _, HO.out, small_int (by omega) (by omega), small_int (by omega) (by omega), small_int (by omega) (by omega), small_int (by omega) (by omega), rfl, ⟨js1, jo1, jn1, jc1, jd1, js2, jo2, jn2, jc2, jd2, js3, jo3, jn3, jc3, jd3, rfl, ?_, ?_, ?_⟩, ks1, ko1, kn1, kc1, kd1, ks2, ko2, kn2, kc2, kd2, ks3, ko3, kn3, kc3, kd3, rfl, ?_, ?_, ?_⟩)⟩
            · repeat' (refine Below.setCell ?_ (by simp; try omega) _)
              first | exact HB | exact HB.drew
            · first | exact num_set6 (num_set6 Nj1 BP (.bool js1) (.slice jo1 jn1 jc1) (.bool js2) (.slice jo2 jn2 jc2) (.bool js3) (.slice jo3 jn3 jc3)) BQ6 (.bool ks1) (.slice ko1 kn1 kc1) (.bool ks2) (.slice ko2 kn2 kc2) (.bool ks3) (.slice ko3 kn3 kc3) | exact num_set6 (num_set6 Nj1.drew BP (.bool js1) (.slice jo1 jn1 jc1) (.bool js2) (.slice jo2 jn2 jc2) (.bool js3) (.slice jo3 jn3 jc3)) BQ6 (.bool ks1) (.slice ko1 kn1 kc1) (.bool ks2) (.slice ko2 kn2 kc2) (.bool ks3) (.slice ko3 kn3 kc3)
            · first | exact num_set6 (num_set6 Nj2 BP (.bool js1) (.slice jo1 jn1 jc1) (.bool js2) (.slice jo2 jn2 jc2) (.bool js3) (.slice jo3 jn3 jc3)) BQ6 (.bool ks1) (.slice ko1 kn1 kc1) (.bool ks2) (.slice ko2 kn2 kc2) (.bool ks3) (.slice ko3 kn3 kc3) | exact num_set6 (num_set6 Nj2.drew BP (.bool js1) (.slice jo1 jn1 jc1) (.bool js2) (.slice jo2 jn2 jc2) (.bool js3) (.slice jo3 jn3 jc3)) BQ6 (.bool ks1) (.slice ko1 kn1 kc1) (.bool ks2) (.slice ko2 kn2 kc2) (.bool ks3) (.slice ko3 kn3 kc3)
            · first | exact num_set6 (num_set6 Nj3 BP (.bool js1) (.slice jo1 jn1 jc1) (.bool js2) (.slice jo2 jn2 jc2) (.bool js3) (.slice jo3 jn3 jc3)) BQ6 (.bool ks1) (.slice ko1 kn1 kc1) (.bool ks2) (.slice ko2 kn2 kc2) (.bool ks3) (.slice ko3 kn3 kc3) | exact num_set6 (num_set6 Nj3.drew BP (.bool js1) (.slice jo1 jn1 jc1) (.bool js2) (.slice jo2 jn2 jc2) (.bool js3) (.slice jo3 jn3 jc3)) BQ6 (.bool ks1) (.slice ko1 kn1 kc1) (.bool ks2) (.slice ko2 kn2 kc2) (.bool ks3) (.slice ko3 kn3 kc3)
            · first | exact num_set6 (num_set6 Nk1 BP (.bool js1) (.slice jo1 jn1 jc1) (.bool js2) (.slice jo2 jn2 jc2) (.bool js3) (.slice jo3 jn3 jc3)) BQ6 (.bool ks1) (.slice ko1 kn1 kc1) (.bool ks2) (.slice ko2 kn2 kc2) (.bool ks3) (.slice ko3 kn3 kc3) | exact num_set6 (num_set6 Nk1.drew BP (.bool js1) (.slice jo1 jn1 jc1) (.bool js2) (.slice jo2 jn2 jc2) (.bool js3) (.slice jo3 jn3 jc3)) BQ6 (.bool ks1) (.slice ko1 kn1 kc1) (.bool ks2) (.slice ko2 kn2 kc2) (.bool ks3) (.slice ko3 kn3 kc3)
            · first | exact num_set6 (num_set6 Nk2 BP (.bool js1) (.slice jo1 jn1 jc1) (.bool js2) (.slice jo2 jn2 jc2) (.bool js3) (.slice jo3 jn3 jc3)) BQ6 (.bool ks1) (.slice ko1 kn1 kc1) (.bool ks2) (.slice ko2 kn2 kc2) (.bool ks3) (.slice ko3 kn3 kc3) | exact num_set6 (num_set6 Nk2.drew BP (.bool js1) (.slice jo1 jn1 jc1) (.bool js2) (.slice jo2 jn2 jc2) (.bool js3) (.slice jo3 jn3 jc3)) BQ6 (.bool ks1) (.slice ko1 kn1 kc1) (.bool ks2) (.slice ko2 kn2 kc2) (.bool ks3) (.slice ko3 kn3 kc3)
            · first | exact num_set6 (num_set6 Nk3 BP (.bool js1) (.slice jo1 jn1 jc1) (.bool js2) (.slice jo2 jn2 jc2) (.bool js3) (.slice jo3 jn3 jc3)) BQ6 (.bool ks1) (.slice ko1 kn1 kc1) (.bool ks2) (.slice ko2 kn2 kc2) (.bool ks3) (.slice ko3 kn3 kc3) | exact num_set6 (num_set6 Nk3.drew BP (.bool js1) (.slice jo1 jn1 jc1) (.bool js2) (.slice jo2 jn2 jc2) (.bool js3) (.slice jo3 jn3 jc3)) BQ6 (.bool ks1) (.slice ko1 kn1 kc1) (.bool ks2) (.slice ko2 kn2 kc2) (.bool ks3) (.slice ko3 kn3 kc3))
  · have h1' := Bool.eq_false_iff.2 h1
    rw [h1']
    have H1 : Hid (lessI a b p q = false) := h1'
    clear h1 h1'
    have hgLx : (w.heap.size + 1 + 1 + 1) < a1.heap.size := BQ.lt
    have hgL : gF < a1.heap.size := BF.lt
    obtain ⟨sc0, sc1, sc2, sc3⟩ := BS.cs4; have sl := BS.lt; obtain ⟨tc0, tc1, tc2, tc3⟩ := BT.cs4; have tl := BT.lt; obtain ⟨fc0, ff0, fc1, ff1⟩ := BF.cf2; have fl := BF.lt
    have gLh := HB.size
    go_wp2_with fail
    refine (l4Less_any u v c d _ rfl _).mono ?_
    rintro e a11 ⟨rfl, hB⟩
    replace BS := (BS.alloc (.cells #[.int .i64 c, .int .i64 d] 54)).step hB
    replace BT := (BT.alloc (.cells #[.int .i64 c, .int .i64 d] 54)).step hB
    replace BF := (BF.alloc (.cells #[.int .i64 c, .int .i64 d] 54)).step hB
    replace BP := (BP.alloc (.cells #[.int .i64 c, .int .i64 d] 54)).step hB
    replace BQ := (BQ.alloc (.cells #[.int .i64 c, .int .i64 d] 54)).step hB
    have BL := (Blk.new a1 [.int .i64 c, .int .i64 d] 54 rfl).step hB
    replace HB := (HB.alloc HB.size (.cells #[.int .i64 c, .int .i64 d] 54)).trans (hB.mono (HB.alloc HB.size (.cells #[.int .i64 c, .int .i64 d] 54)).size)
    clear hB sc0 sc1 sc2 sc3 sl tc0 tc1 tc2 tc3 tl fc0 ff0 fc1 ff1 fl
    have hgL2 : (w.heap.size + 1 + 1 + 1) < a1.heap.size := hgLx
    generalize a1.heap.size = gL at *
    by_cases h2 : lessI u v c d = true
    · rw [h2]
      have H2 : Hid (lessI u v c d = true) := h2
      clear h2
      obtain ⟨sc0, sc1, sc2, sc3⟩ := BS.cs4; have sl := BS.lt; obtain ⟨tc0, tc1, tc2, tc3⟩ := BT.cs4; have tl := BT.lt; obtain ⟨fc0, ff0, fc1, ff1⟩ := BF.cf2; have fl := BF.lt; obtain ⟨lc0, lf0, lc1, lf1⟩ := BL.cf2; have ll := BL.lt
      go_upto_region 12 with fail
      clear sc0 sc1 sc2 sc3 sl tc0 tc1 tc2 tc3 tl fc0 ff0 fc1 ff1 fl lc0 lf0 lc1 lf1 ll
      replace BL := BL.stored2 (.int .i64 u) (.int .i64 v)
      replace BF : Blk ((a11.setCell ⟨gL, 0, none⟩ (.int .i64 u)).setCell ⟨gL, 1, none⟩ (.int .i64 v)) _ _ := BF.set2 (by omega)
      replace BS : Blk ((a11.setCell ⟨gL, 0, none⟩ (.int .i64 u)).setCell ⟨gL, 1, none⟩ (.int .i64 v)) _ _ := BS.set2 (by omega)
      replace BT : Blk ((a11.setCell ⟨gL, 0, none⟩ (.int .i64 u)).setCell ⟨gL, 1, none⟩ (.int .i64 v)) _ _ := BT.set2 (by omega)
      replace BP : Blk ((a11.setCell ⟨gL, 0, none⟩ (.int .i64 u)).setCell ⟨gL, 1, none⟩ (.int .i64 v)) _ _ := BP.set2 (by omega)
      replace BQ : Blk ((a11.setCell ⟨gL, 0, none⟩ (.int .i64 u)).setCell ⟨gL, 1, none⟩ (.int .i64 v)) _ _ := BQ.set2 (by omega)
      replace HB : Below w.heap.size w ((a11.setCell ⟨gL, 0, none⟩ (.int .i64 u)).setCell ⟨gL, 1, none⟩ (.int .i64 v)) := Below.setCell (Below.setCell HB (by show _ ≤ gL; omega) _) (by show _ ≤ gL; omega) _
      generalize ((a11.setCell ⟨gL, 0, none⟩ (.int .i64 u)).setCell ⟨gL, 1, none⟩ (.int .i64 v)) = WN at *
      obtain ⟨sc0, sc1, sc2, sc3⟩ := BS.cs4; have sl := BS.lt; obtain ⟨tc0, tc1, tc2, tc3⟩ := BT.cs4; have tl := BT.lt; obtain ⟨fc0, ff0, fc1, ff1⟩ := BF.cf2; have fl := BF.lt; obtain ⟨lc0, lf0, lc1, lf1⟩ := BL.cf2; have ll := BL.lt
      go_wp2_with fail
      refine (l4Less_any u v a b _ rfl _).mono ?_
      rintro e a12 ⟨rfl, hB⟩
      replace BS := BS.step hB
      replace BT := BT.step hB
      replace BF := BF.step hB
      replace BL := BL.step hB
      replace BP := BP.step hB
      replace BQ := BQ.step hB
      replace HB := HB.trans (hB.mono HB.size)
      clear hB sc0 sc1 sc2 sc3 sl tc0 tc1 tc2 tc3 tl fc0 ff0 fc1 ff1 fl lc0 lf0 lc1 lf1 ll
      by_cases hA : lessI u v a b = true
      · rw [hA]
        have HO : Hid (meetW a b c d p q u v = .tuple #[.int .i64 0, .agg #[.int .u64 0, .int .u64 0, .int .u64 0, .int .u64 0, .int .u64 0, .int .u64 0, .int .u64 0, .int .u64 0, .int .u64 0, .int .u64 0, .int .u64 0, .int .u64 0], .agg #[.int .u64 0, .int .u64 0, .int .u64 0, .int .u64 0, .int .u64 0, .int .u64 0, .int .u64 0, .int .u64 0, .int .u64 0, .int .u64 0, .int .u64 0, .int .u64 0]]) := by show _ = _; rw [HW.out]; unfold alongV; rw [show (if lessI a b p q = true then p else a) = a by rw [H1.out]; rfl, show (if lessI a b p q = true then q else b) = b by rw [H1.out]; rfl, show (if lessI u v c d = true then u else c) = u by rw [H2.out]; rfl, show (if lessI u v c d = true then v else d) = v by rw [H2.out]; rfl, if_pos (Or.inr hA)]
        clear hA BS BT BF BL
        obtain ⟨xc0, xf0, xc1, xf1, xc2, xf2, xc3, xf3, xc4, xf4, xc5, xf5⟩ := BP.cf6; have xl := BP.lt; obtain ⟨yc0, yf0, yc1, yf1, yc2, yf2, yc3, yf3, yc4, yf4, yc5, yf5⟩ := BQ.cf6; have yl := BQ.lt
        go_wp2
        refine bodyPost_ret (v := .tuple #[.int .i64 0, .agg #[.bool false, .slice none 0 0, .bool false, .slice none 0 0, .bool false, .slice none 0 0], .agg #[.bool false, .slice none 0 0, .bool false, .slice none 0 0, .bool false, .slice none 0 0]]) (by simp [results, Try.results27, go_sem, xc0, yc0, xc1, yc1, xc2, yc2, xc3, yc3, xc4, yc4, xc5, yc5]) rfl ?_
        refine ⟨?_, Or.inl ⟨HO.out, rfl⟩⟩
        repeat' (refine Below.setCell ?_ (by simp; try omega) _)
        exact HB
      · have hA' := Bool.eq_false_iff.2 hA
        rw [hA']
        have EQ := eqSp a b u v
        by_cases hE : a = u ∧ b = v
        · have HO : Hid (meetW a b c d p q u v = .tuple #[.int .i64 1, .agg #[.int .u64 (ww3 a), .int .u64 (ww2 a), .int .u64 (ww1 a), .int .u64 (ww0 a), .int .u64 (ww3 b), .int .u64 (ww2 b), .int .u64 (ww1 b), .int .u64 (ww0 b), .int .u64 (ww3 1), .int .u64 (ww2 1), .int .u64 (ww1 1), .int .u64 (ww0 1)], .agg #[.int .u64 0, .int .u64 0, .int .u64 0, .int .u64 0, .int .u64 0, .int .u64 0, .int .u64 0, .int .u64 0, .int .u64 0, .int .u64 0, .int .u64 0, .int .u64 0]]) := by show _ = _; rw [HW.out]; unfold alongV; rw [show (if lessI a b p q = true then p else a) = a by rw [H1.out]; rfl, show (if lessI a b p q = true then q else b) = b by rw [H1.out]; rfl, show (if lessI u v c d = true then u else c) = u by rw [H2.out]; rfl, show (if lessI u v c d = true then v else d) = v by rw [H2.out]; rfl, if_neg (by rw [hA']; rintro (h | h); exact h HT.out; cases h), if_pos hE]
          rw [show (decide (a = u) && decide (b = v)) = true by rw [hE.1, hE.2]; simp] at EQ
          have PO := l3Spot_det a b (by omega) (by omega)
          clear hA hA' hE
          obtain ⟨sc0, sc1, sc2, sc3⟩ := BS.cs4; have sl := BS.lt; obtain ⟨tc0, tc1, tc2, tc3⟩ := BT.cs4; have tl := BT.lt; obtain ⟨fc0, ff0, fc1, ff1⟩ := BF.cf2; have fl := BF.lt; obtain ⟨lc0, lf0, lc1, lf1⟩ := BL.cf2; have ll := BL.lt
          go_wp2_with fail
          refine (PO _).mono ?_
          rintro e a13 ⟨js1, jo1, jn1, jc1, jd1, js2, jo2, jn2, jc2, jd2, js3, jo3, jn3, jc3, jd3, rfl, Nj1, Nj2, Nj3, hB⟩
          replace BP := BP.step hB; replace BQ := BQ.step hB; replace HB := HB.trans (hB.mono HB.size)
          clear hB sc0 sc1 sc2 sc3 sl tc0 tc1 tc2 tc3 tl fc0 ff0 fc1 ff1 fl lc0 lf0 lc1 lf1 ll BS BT BF BL PO EQ
          obtain ⟨xc0, xf0, xc1, xf1, xc2, xf2, xc3, xf3, xc4, xf4, xc5, xf5⟩ := BP.cf6; have xl := BP.lt; obtain ⟨yc0, yf0, yc1, yf1, yc2, yf2, yc3, yf3, yc4, yf4, yc5, yf5⟩ := BQ.cf6; have yl := BQ.lt
          have BQ6 := BQ.set6 (g := (w.heap.size + 1 + 1)) (v0 := .bool js1) (v1 := .slice jo1 jn1 jc1) (v2 := .bool js2) (v3 := .slice jo2 jn2 jc2) (v4 := .bool js3) (v5 := .slice jo3 jn3 jc3) (by omega)
          go_wp2
          refine bodyPost_ret (v := .tuple #[.int .i64 1, .agg #[.bool js1, .slice jo1 jn1 jc1, .bool js2, .slice jo2 jn2 jc2, .bool js3, .slice jo3 jn3 jc3], .agg #[.bool false, .slice none 0 0, .bool false, .slice none 0 0, .bool false, .slice none 0 0]]) (by simp [results, Try.results27, go_sem, xc0, yc0, xc1, yc1, xc2, yc2, xc3, yc3, xc4, yc4, xc5, yc5]) rfl ?_
          refine ⟨?_, Or.inr (Or.inl ⟨a, b, 1, _, HO.out, small_int (by omega) (by omega), small_int (by omega) (by omega), small_int (by omega) (by omega), rfl, js1, jo1, jn1, jc1, jd1, js2, jo2, jn2, jc2, jd2, js3, jo3, jn3, jc3, jd3, rfl, ?_, ?_, ?_⟩)⟩
          · repeat' (refine Below.setCell ?_ (by simp; try omega) _)
            exact HB
          · exact num_set6 (num_set6 Nj1 BP (.bool js1) (.slice jo1 jn1 jc1) (.bool js2) (.slice jo2 jn2 jc2) (.bool js3) (.slice jo3 jn3 jc3)) BQ6 (.bool false) (.slice none 0 0) (.bool false) (.slice none 0 0) (.bool false) (.slice none 0 0)
          · exact num_set6 (num_set6 Nj2 BP (.bool js1) (.slice jo1 jn1 jc1) (.bool js2) (.slice jo2 jn2 jc2) (.bool js3) (.slice jo3 jn3 jc3)) BQ6 (.bool false) (.slice none 0 0) (.bool false) (.slice none 0 0) (.bool false) (.slice none 0 0)
          · exact num_set6 (num_set6 Nj3 BP (.bool js1) (.slice jo1 jn1 jc1) (.bool js2) (.slice jo2 jn2 jc2) (.bool js3) (.slice jo3 jn3 jc3)) BQ6 (.bool false) (.slice none 0 0) (.bool false) (.slice none 0 0) (.bool false) (.slice none 0 0)
        · have HO : Hid (meetW a b c d p q u v = .tuple #[.int .i64 2, .agg #[.int .u64 (ww3 a), .int .u64 (ww2 a), .int .u64 (ww1 a), .int .u64 (ww0 a), .int .u64 (ww3 b), .int .u64 (ww2 b), .int .u64 (ww1 b), .int .u64 (ww0 b), .int .u64 (ww3 1), .int .u64 (ww2 1), .int .u64 (ww1 1), .int .u64 (ww0 1)], .agg #[.int .u64 (ww3 u), .int .u64 (ww2 u), .int .u64 (ww1 u), .int .u64 (ww0 u), .int .u64 (ww3 v), .int .u64 (ww2 v), .int .u64 (ww1 v), .int .u64 (ww0 v), .int .u64 (ww3 1), .int .u64 (ww2 1), .int .u64 (ww1 1), .int .u64 (ww0 1)]]) := by show _ = _; rw [HW.out]; unfold alongV; rw [show (if lessI a b p q = true then p else a) = a by rw [H1.out]; rfl, show (if lessI a b p q = true then q else b) = b by rw [H1.out]; rfl, show (if lessI u v c d = true then u else c) = u by rw [H2.out]; rfl, show (if lessI u v c d = true then v else d) = v by rw [H2.out]; rfl, if_neg (by rw [hA']; rintro (h | h); exact h HT.out; cases h), if_neg hE]
          rw [show (decide (a = u) && decide (b = v)) = false by rw [← Bool.decide_and]; exact decide_eq_false hE] at EQ
          have PO := l3Spot_det a b (by omega) (by omega)
          have PL := l3Spot_det u v (by omega) (by omega)
          clear hA hA' hE BS BT
          have tok1 : True := trivial
          obtain ⟨fc0, ff0, fc1, ff1⟩ := BF.cf2; have fl := BF.lt; obtain ⟨lc0, lf0, lc1, lf1⟩ := BL.cf2; have ll := BL.lt
          go_upto_region 16 with fail
          clear fc0 ff0 fc1 ff1 fl lc0 lf0 lc1 lf1 ll EQ
          go_region_held3 (fun w' => w'.cell? ⟨gF, 0, none⟩ = some (.int .i64 a) ∧ w'.cell? ⟨gF, 1, none⟩ = some (.int .i64 b) ∧ w'.cell? ⟨gL, 0, none⟩ = some (.int .i64 u) ∧ w'.cell? ⟨gL, 1, none⟩ = some (.int .i64 v)) ((refine al_cells ?_ ?_ <;> repeat (first | (with_reducible exact BF) | (with_reducible exact BL) | (with_reducible refine Blk.drew ?_) | (with_reducible refine Blk.set6 ?_ (by omega)))))
            (first
              | (go_at_call 38; have _t := tok1; refine (PO _).mono ?_; rintro e a14 ⟨js1, jo1, jn1, jc1, jd1, js2, jo2, jn2, jc2, jd2, js3, jo3, jn3, jc3, jd3, rfl, Nj1, Nj2, Nj3, hB⟩; (first | (replace BF := BF.step hB; replace BL := BL.step hB; replace BP := BP.step hB; replace BQ := BQ.step hB; replace HB := HB.trans (hB.mono HB.size)) | (replace BF := BF.drew.step hB; replace BL := BL.drew.step hB; replace BP := BP.drew.step hB; replace BQ := BQ.drew.step hB; replace HB := HB.drew.trans (hB.mono HB.drew.size))); clear hB; clear tok1 _t)
              | (go_at_call 38; refine (PL _).mono ?_; rintro e a15 ⟨ks1, ko1, kn1, kc1, kd1, ks2, ko2, kn2, kc2, kd2, ks3, ko3, kn3, kc3, kd3, rfl, Nk1, Nk2, Nk3, hB⟩; (first | (replace BF := BF.step hB; replace BL := BL.step hB; replace BP := BP.step hB; replace BQ := BQ.step hB; replace HB := HB.trans (hB.mono HB.size)) | (replace BF := BF.drew.step hB; replace BL := BL.drew.step hB; replace BP := BP.drew.step hB; replace BQ := BQ.drew.step hB; replace HB := HB.drew.trans (hB.mono HB.drew.size))); replace Nj1 := Nj1.below hB; replace Nj2 := Nj2.below hB; replace Nj3 := Nj3.below hB; clear hB; obtain ⟨xc0, xf0, xc1, xf1, xc2, xf2, xc3, xf3, xc4, xf4, xc5, xf5⟩ := BP.cf6; have xl := BP.lt; obtain ⟨yc0, yf0, yc1, yf1, yc2, yf2, yc3, yf3, yc4, yf4, yc5, yf5⟩ := BQ.cf6; have yl := BQ.lt))
          all_goals clear BF BL PO PL
          all_goals (
            have BQ6 := BQ.set6 (g := (w.heap.size + 1 + 1)) (v0 := .bool js1) (v1 := .slice jo1 jn1 jc1) (v2 := .bool js2) (v3 := .slice jo2 jn2 jc2) (v4 := .bool js3) (v5 := .slice jo3 jn3 jc3) (by omega)
            go_wp2
            refine bodyPost_ret (v := .tuple #[.int .i64 2, .agg #[.bool js1, .slice jo1 jn1 jc1, .bool js2, .slice jo2 jn2 jc2, .bool js3, .slice jo3 jn3 jc3], .agg #[.bool ks1, .slice ko1 kn1 kc1, .bool ks2, .slice ko2 kn2 kc2, .bool ks3, .slice ko3 kn3 kc3]]) (by simp [results, Try.results27, go_sem, xc0, yc0, xc1, yc1, xc2, yc2, xc3, yc3, xc4, yc4, xc5, yc5]) rfl ?_
            refine ⟨?_, Or.inr (Or.inr ⟨a, b, u, v, _, _, HO.out, small_int (by omega) (by omega), small_int (by omega) (by omega), small_int (by omega) (by omega), small_int (by omega) (by omega), rfl, ⟨js1, jo1, jn1, jc1, jd1, js2, jo2, jn2, jc2, jd2, js3, jo3, jn3, jc3, jd3, rfl, ?_, ?_, ?_⟩, ks1, ko1, kn1, kc1, kd1, ks2, ko2, kn2, kc2, kd2, ks3, ko3, kn3, kc3, kd3, rfl, ?_, ?_, ?_⟩)⟩
            · repeat' (refine Below.setCell ?_ (by simp; try omega) _)
              first | exact HB | exact HB.drew
            · first | exact num_set6 (num_set6 Nj1 BP (.bool js1) (.slice jo1 jn1 jc1) (.bool js2) (.slice jo2 jn2 jc2) (.bool js3) (.slice jo3 jn3 jc3)) BQ6 (.bool ks1) (.slice ko1 kn1 kc1) (.bool ks2) (.slice ko2 kn2 kc2) (.bool ks3) (.slice ko3 kn3 kc3) | exact num_set6 (num_set6 Nj1.drew BP (.bool js1) (.slice jo1 jn1 jc1) (.bool js2) (.slice jo2 jn2 jc2) (.bool js3) (.slice jo3 jn3 jc3)) BQ6 (.bool ks1) (.slice ko1 kn1 kc1) (.bool ks2) (.slice ko2 kn2 kc2) (.bool ks3) (.slice ko3 kn3 kc3)
            · first | exact num_set6 (num_set6 Nj2 BP (.bool js1) (.slice jo1 jn1 jc1) (.bool js2) (.slice jo2 jn2 jc2) (.bool js3) (.slice jo3 jn3 jc3)) BQ6 (.bool ks1) (.slice ko1 kn1 kc1) (.bool ks2) (.slice ko2 kn2 kc2) (.bool ks3) (.slice ko3 kn3 kc3) | exact num_set6 (num_set6 Nj2.drew BP (.bool js1) (.slice jo1 jn1 jc1) (.bool js2) (.slice jo2 jn2 jc2) (.bool js3) (.slice jo3 jn3 jc3)) BQ6 (.bool ks1) (.slice ko1 kn1 kc1) (.bool ks2) (.slice ko2 kn2 kc2) (.bool ks3) (.slice ko3 kn3 kc3)
            · first | exact num_set6 (num_set6 Nj3 BP (.bool js1) (.slice jo1 jn1 jc1) (.bool js2) (.slice jo2 jn2 jc2) (.bool js3) (.slice jo3 jn3 jc3)) BQ6 (.bool ks1) (.slice ko1 kn1 kc1) (.bool ks2) (.slice ko2 kn2 kc2) (.bool ks3) (.slice ko3 kn3 kc3) | exact num_set6 (num_set6 Nj3.drew BP (.bool js1) (.slice jo1 jn1 jc1) (.bool js2) (.slice jo2 jn2 jc2) (.bool js3) (.slice jo3 jn3 jc3)) BQ6 (.bool ks1) (.slice ko1 kn1 kc1) (.bool ks2) (.slice ko2 kn2 kc2) (.bool ks3) (.slice ko3 kn3 kc3)
            · first | exact num_set6 (num_set6 Nk1 BP (.bool js1) (.slice jo1 jn1 jc1) (.bool js2) (.slice jo2 jn2 jc2) (.bool js3) (.slice jo3 jn3 jc3)) BQ6 (.bool ks1) (.slice ko1 kn1 kc1) (.bool ks2) (.slice ko2 kn2 kc2) (.bool ks3) (.slice ko3 kn3 kc3) | exact num_set6 (num_set6 Nk1.drew BP (.bool js1) (.slice jo1 jn1 jc1) (.bool js2) (.slice jo2 jn2 jc2) (.bool js3) (.slice jo3 jn3 jc3)) BQ6 (.bool ks1) (.slice ko1 kn1 kc1) (.bool ks2) (.slice ko2 kn2 kc2) (.bool ks3) (.slice ko3 kn3 kc3)
            · first | exact num_set6 (num_set6 Nk2 BP (.bool js1) (.slice jo1 jn1 jc1) (.bool js2) (.slice jo2 jn2 jc2) (.bool js3) (.slice jo3 jn3 jc3)) BQ6 (.bool ks1) (.slice ko1 kn1 kc1) (.bool ks2) (.slice ko2 kn2 kc2) (.bool ks3) (.slice ko3 kn3 kc3) | exact num_set6 (num_set6 Nk2.drew BP (.bool js1) (.slice jo1 jn1 jc1) (.bool js2) (.slice jo2 jn2 jc2) (.bool js3) (.slice jo3 jn3 jc3)) BQ6 (.bool ks1) (.slice ko1 kn1 kc1) (.bool ks2) (.slice ko2 kn2 kc2) (.bool ks3) (.slice ko3 kn3 kc3)
            · first | exact num_set6 (num_set6 Nk3 BP (.bool js1) (.slice jo1 jn1 jc1) (.bool js2) (.slice jo2 jn2 jc2) (.bool js3) (.slice jo3 jn3 jc3)) BQ6 (.bool ks1) (.slice ko1 kn1 kc1) (.bool ks2) (.slice ko2 kn2 kc2) (.bool ks3) (.slice ko3 kn3 kc3) | exact num_set6 (num_set6 Nk3.drew BP (.bool js1) (.slice jo1 jn1 jc1) (.bool js2) (.slice jo2 jn2 jc2) (.bool js3) (.slice jo3 jn3 jc3)) BQ6 (.bool ks1) (.slice ko1 kn1 kc1) (.bool ks2) (.slice ko2 kn2 kc2) (.bool ks3) (.slice ko3 kn3 kc3))
    · have h2' := Bool.eq_false_iff.2 h2
      rw [h2']
      have H2 : Hid (lessI u v c d = false) := h2'
      clear h2 h2'
      obtain ⟨sc0, sc1, sc2, sc3⟩ := BS.cs4; have sl := BS.lt; obtain ⟨tc0, tc1, tc2, tc3⟩ := BT.cs4; have tl := BT.lt; obtain ⟨fc0, ff0, fc1, ff1⟩ := BF.cf2; have fl := BF.lt; obtain ⟨lc0, lf0, lc1, lf1⟩ := BL.cf2; have ll := BL.lt
      go_wp2_with fail
      refine (l4Less_any c d a b _ rfl _).mono ?_
      rintro e a16 ⟨rfl, hB⟩
      replace BS := BS.step hB
      replace BT := BT.step hB
      replace BF := BF.step hB
      replace BL := BL.step hB
      replace BP := BP.step hB
      replace BQ := BQ.step hB
      replace HB := HB.trans (hB.mono HB.size)
      clear hB sc0 sc1 sc2 sc3 sl tc0 tc1 tc2 tc3 tl fc0 ff0 fc1 ff1 fl lc0 lf0 lc1 lf1 ll
      by_cases hA : lessI c d a b = true
      · rw [hA]
        have HO : Hid (meetW a b c d p q u v = .tuple #[.int .i64 0, .agg #[.int .u64 0, .int .u64 0, .int .u64 0, .int .u64 0, .int .u64 0, .int .u64 0, .int .u64 0, .int .u64 0, .int .u64 0, .int .u64 0, .int .u64 0, .int .u64 0], .agg #[.int .u64 0, .int .u64 0, .int .u64 0, .int .u64 0, .int .u64 0, .int .u64 0, .int .u64 0, .int .u64 0, .int .u64 0, .int .u64 0, .int .u64 0, .int .u64 0]]) := by show _ = _; rw [HW.out]; unfold alongV; rw [show (if lessI a b p q = true then p else a) = a by rw [H1.out]; rfl, show (if lessI a b p q = true then q else b) = b by rw [H1.out]; rfl, show (if lessI u v c d = true then u else c) = c by rw [H2.out]; rfl, show (if lessI u v c d = true then v else d) = d by rw [H2.out]; rfl, if_pos (Or.inr hA)]
        clear hA BS BT BF BL
        obtain ⟨xc0, xf0, xc1, xf1, xc2, xf2, xc3, xf3, xc4, xf4, xc5, xf5⟩ := BP.cf6; have xl := BP.lt; obtain ⟨yc0, yf0, yc1, yf1, yc2, yf2, yc3, yf3, yc4, yf4, yc5, yf5⟩ := BQ.cf6; have yl := BQ.lt
        go_wp2
        refine bodyPost_ret (v := .tuple #[.int .i64 0, .agg #[.bool false, .slice none 0 0, .bool false, .slice none 0 0, .bool false, .slice none 0 0], .agg #[.bool false, .slice none 0 0, .bool false, .slice none 0 0, .bool false, .slice none 0 0]]) (by simp [results, Try.results27, go_sem, xc0, yc0, xc1, yc1, xc2, yc2, xc3, yc3, xc4, yc4, xc5, yc5]) rfl ?_
        refine ⟨?_, Or.inl ⟨HO.out, rfl⟩⟩
        repeat' (refine Below.setCell ?_ (by simp; try omega) _)
        exact HB
      · have hA' := Bool.eq_false_iff.2 hA
        rw [hA']
        have EQ := eqSp a b c d
        by_cases hE : a = c ∧ b = d
        · have HO : Hid (meetW a b c d p q u v = .tuple #[.int .i64 1, .agg #[.int .u64 (ww3 a), .int .u64 (ww2 a), .int .u64 (ww1 a), .int .u64 (ww0 a), .int .u64 (ww3 b), .int .u64 (ww2 b), .int .u64 (ww1 b), .int .u64 (ww0 b), .int .u64 (ww3 1), .int .u64 (ww2 1), .int .u64 (ww1 1), .int .u64 (ww0 1)], .agg #[.int .u64 0, .int .u64 0, .int .u64 0, .int .u64 0, .int .u64 0, .int .u64 0, .int .u64 0, .int .u64 0, .int .u64 0, .int .u64 0, .int .u64 0, .int .u64 0]]) := by show _ = _; rw [HW.out]; unfold alongV; rw [show (if lessI a b p q = true then p else a) = a by rw [H1.out]; rfl, show (if lessI a b p q = true then q else b) = b by rw [H1.out]; rfl, show (if lessI u v c d = true then u else c) = c by rw [H2.out]; rfl, show (if lessI u v c d = true then v else d) = d by rw [H2.out]; rfl, if_neg (by rw [hA']; rintro (h | h); exact h HT.out; cases h), if_pos hE]
          rw [show (decide (a = c) && decide (b = d)) = true by rw [hE.1, hE.2]; simp] at EQ
          have PO := l3Spot_det a b (by omega) (by omega)
          clear hA hA' hE
          obtain ⟨sc0, sc1, sc2, sc3⟩ := BS.cs4; have sl := BS.lt; obtain ⟨tc0, tc1, tc2, tc3⟩ := BT.cs4; have tl := BT.lt; obtain ⟨fc0, ff0, fc1, ff1⟩ := BF.cf2; have fl := BF.lt; obtain ⟨lc0, lf0, lc1, lf1⟩ := BL.cf2; have ll := BL.lt
          go_wp2_with fail
          refine (PO _).mono ?_
          rintro e a17 ⟨js1, jo1, jn1, jc1, jd1, js2, jo2, jn2, jc2, jd2, js3, jo3, jn3, jc3, jd3, rfl, Nj1, Nj2, Nj3, hB⟩
          replace BP := BP.step hB; replace BQ := BQ.step hB; replace HB := HB.trans (hB.mono HB.size)
          clear hB sc0 sc1 sc2 sc3 sl tc0 tc1 tc2 tc3 tl fc0 ff0 fc1 ff1 fl lc0 lf0 lc1 lf1 ll BS BT BF BL PO EQ
          obtain ⟨xc0, xf0, xc1, xf1, xc2, xf2, xc3, xf3, xc4, xf4, xc5, xf5⟩ := BP.cf6; have xl := BP.lt; obtain ⟨yc0, yf0, yc1, yf1, yc2, yf2, yc3, yf3, yc4, yf4, yc5, yf5⟩ := BQ.cf6; have yl := BQ.lt
          have BQ6 := BQ.set6 (g := (w.heap.size + 1 + 1)) (v0 := .bool js1) (v1 := .slice jo1 jn1 jc1) (v2 := .bool js2) (v3 := .slice jo2 jn2 jc2) (v4 := .bool js3) (v5 := .slice jo3 jn3 jc3) (by omega)
          go_wp2
          refine bodyPost_ret (v := .tuple #[.int .i64 1, .agg #[.bool js1, .slice jo1 jn1 jc1, .bool js2, .slice jo2 jn2 jc2, .bool js3, .slice jo3 jn3 jc3], .agg #[.bool false, .slice none 0 0, .bool false, .slice none 0 0, .bool false, .slice none 0 0]]) (by simp [results, Try.results27, go_sem, xc0, yc0, xc1, yc1, xc2, yc2, xc3, yc3, xc4, yc4, xc5, yc5]) rfl ?_
          refine ⟨?_, Or.inr (Or.inl ⟨a, b, 1, _, HO.out, small_int (by omega) (by omega), small_int (by omega) (by omega), small_int (by omega) (by omega), rfl, js1, jo1, jn1, jc1, jd1, js2, jo2, jn2, jc2, jd2, js3, jo3, jn3, jc3, jd3, rfl, ?_, ?_, ?_⟩)⟩
          · repeat' (refine Below.setCell ?_ (by simp; try omega) _)
            exact HB
          · exact num_set6 (num_set6 Nj1 BP (.bool js1) (.slice jo1 jn1 jc1) (.bool js2) (.slice jo2 jn2 jc2) (.bool js3) (.slice jo3 jn3 jc3)) BQ6 (.bool false) (.slice none 0 0) (.bool false) (.slice none 0 0) (.bool false) (.slice none 0 0)
          · exact num_set6 (num_set6 Nj2 BP (.bool js1) (.slice jo1 jn1 jc1) (.bool js2) (.slice jo2 jn2 jc2) (.bool js3) (.slice jo3 jn3 jc3)) BQ6 (.bool false) (.slice none 0 0) (.bool false) (.slice none 0 0) (.bool false) (.slice none 0 0)
          · exact num_set6 (num_set6 Nj3 BP (.bool js1) (.slice jo1 jn1 jc1) (.bool js2) (.slice jo2 jn2 jc2) (.bool js3) (.slice jo3 jn3 jc3)) BQ6 (.bool false) (.slice none 0 0) (.bool false) (.slice none 0 0) (.bool false) (.slice none 0 0)
        · have HO : Hid (meetW a b c d p q u v = .tuple #[.int .i64 2, .agg #[.int .u64 (ww3 a), .int .u64 (ww2 a), .int .u64 (ww1 a), .int .u64 (ww0 a), .int .u64 (ww3 b), .int .u64 (ww2 b), .int .u64 (ww1 b), .int .u64 (ww0 b), .int .u64 (ww3 1), .int .u64 (ww2 1), .int .u64 (ww1 1), .int .u64 (ww0 1)], .agg #[.int .u64 (ww3 c), .int .u64 (ww2 c), .int .u64 (ww1 c), .int .u64 (ww0 c), .int .u64 (ww3 d), .int .u64 (ww2 d), .int .u64 (ww1 d), .int .u64 (ww0 d), .int .u64 (ww3 1), .int .u64 (ww2 1), .int .u64 (ww1 1), .int .u64 (ww0 1)]]) := by show _ = _; rw [HW.out]; unfold alongV; rw [show (if lessI a b p q = true then p else a) = a by rw [H1.out]; rfl, show (if lessI a b p q = true then q else b) = b by rw [H1.out]; rfl, show (if lessI u v c d = true then u else c) = c by rw [H2.out]; rfl, show (if lessI u v c d = true then v else d) = d by rw [H2.out]; rfl, if_neg (by rw [hA']; rintro (h | h); exact h HT.out; cases h), if_neg hE]
          rw [show (decide (a = c) && decide (b = d)) = false by rw [← Bool.decide_and]; exact decide_eq_false hE] at EQ
          have PO := l3Spot_det a b (by omega) (by omega)
          have PL := l3Spot_det c d (by omega) (by omega)
          clear hA hA' hE BS BT
          have tok1 : True := trivial
          obtain ⟨fc0, ff0, fc1, ff1⟩ := BF.cf2; have fl := BF.lt; obtain ⟨lc0, lf0, lc1, lf1⟩ := BL.cf2; have ll := BL.lt
          go_upto_region 16 with fail
          clear fc0 ff0 fc1 ff1 fl lc0 lf0 lc1 lf1 ll EQ
          go_region_held3 (fun w' => w'.cell? ⟨gF, 0, none⟩ = some (.int .i64 a) ∧ w'.cell? ⟨gF, 1, none⟩ = some (.int .i64 b) ∧ w'.cell? ⟨gL, 0, none⟩ = some (.int .i64 c) ∧ w'.cell? ⟨gL, 1, none⟩ = some (.int .i64 d)) ((refine al_cells ?_ ?_ <;> repeat (first | (with_reducible exact BF) | (with_reducible exact BL) | (with_reducible refine Blk.drew ?_) | (with_reducible refine Blk.set6 ?_ (by omega)))))
            (first
              | (go_at_call 38; have _t := tok1; refine (PO _).mono ?_; rintro e a18 ⟨js1, jo1, jn1, jc1, jd1, js2, jo2, jn2, jc2, jd2, js3, jo3, jn3, jc3, jd3, rfl, Nj1, Nj2, Nj3, hB⟩; (first | (replace BF := BF.step hB; replace BL := BL.step hB; replace BP := BP.step hB; replace BQ := BQ.step hB; replace HB := HB.trans (hB.mono HB.size)) | (replace BF := BF.drew.step hB; replace BL := BL.drew.step hB; replace BP := BP.drew.step hB; replace BQ := BQ.drew.step hB; replace HB := HB.drew.trans (hB.mono HB.drew.size))); clear hB; clear tok1 _t)
              | (go_at_call 38; refine (PL _).mono ?_; rintro e a19 ⟨ks1, ko1, kn1, kc1, kd1, ks2, ko2, kn2, kc2, kd2, ks3, ko3, kn3, kc3, kd3, rfl, Nk1, Nk2, Nk3, hB⟩; (first | (replace BF := BF.step hB; replace BL := BL.step hB; replace BP := BP.step hB; replace BQ := BQ.step hB; replace HB := HB.trans (hB.mono HB.size)) | (replace BF := BF.drew.step hB; replace BL := BL.drew.step hB; replace BP := BP.drew.step hB; replace BQ := BQ.drew.step hB; replace HB := HB.drew.trans (hB.mono HB.drew.size))); replace Nj1 := Nj1.below hB; replace Nj2 := Nj2.below hB; replace Nj3 := Nj3.below hB; clear hB; obtain ⟨xc0, xf0, xc1, xf1, xc2, xf2, xc3, xf3, xc4, xf4, xc5, xf5⟩ := BP.cf6; have xl := BP.lt; obtain ⟨yc0, yf0, yc1, yf1, yc2, yf2, yc3, yf3, yc4, yf4, yc5, yf5⟩ := BQ.cf6; have yl := BQ.lt))
          all_goals clear BF BL PO PL
          all_goals (
            have BQ6 := BQ.set6 (g := (w.heap.size + 1 + 1)) (v0 := .bool js1) (v1 := .slice jo1 jn1 jc1) (v2 := .bool js2) (v3 := .slice jo2 jn2 jc2) (v4 := .bool js3) (v5 := .slice jo3 jn3 jc3) (by omega)
            go_wp2
            refine bodyPost_ret (v := .tuple #[.int .i64 2, .agg #[.bool js1, .slice jo1 jn1 jc1, .bool js2, .slice jo2 jn2 jc2, .bool js3, .slice jo3 jn3 jc3], .agg #[.bool ks1, .slice ko1 kn1 kc1, .bool ks2, .slice ko2 kn2 kc2, .bool ks3, .slice ko3 kn3 kc3]]) (by simp [results, Try.results27, go_sem, xc0, yc0, xc1, yc1, xc2, yc2, xc3, yc3, xc4, yc4, xc5, yc5]) rfl ?_
            refine ⟨?_, Or.inr (Or.inr ⟨a, b, c, d, _, _, HO.out, small_int (by omega) (by omega), small_int (by omega) (by omega), small_int (by omega) (by omega), small_int (by omega) (by omega), rfl, ⟨js1, jo1, jn1, jc1, jd1, js2, jo2, jn2, jc2, jd2, js3, jo3, jn3, jc3, jd3, rfl, ?_, ?_, ?_⟩, ks1, ko1, kn1, kc1, kd1, ks2, ko2, kn2, kc2, kd2, ks3, ko3, kn3, kc3, kd3, rfl, ?_, ?_, ?_⟩)⟩
            · repeat' (refine Below.setCell ?_ (by simp; try omega) _)
              first | exact HB | exact HB.drew
            · first | exact num_set6 (num_set6 Nj1 BP (.bool js1) (.slice jo1 jn1 jc1) (.bool js2) (.slice jo2 jn2 jc2) (.bool js3) (.slice jo3 jn3 jc3)) BQ6 (.bool ks1) (.slice ko1 kn1 kc1) (.bool ks2) (.slice ko2 kn2 kc2) (.bool ks3) (.slice ko3 kn3 kc3) | exact num_set6 (num_set6 Nj1.drew BP (.bool js1) (.slice jo1 jn1 jc1) (.bool js2) (.slice jo2 jn2 jc2) (.bool js3) (.slice jo3 jn3 jc3)) BQ6 (.bool ks1) (.slice ko1 kn1 kc1) (.bool ks2) (.slice ko2 kn2 kc2) (.bool ks3) (.slice ko3 kn3 kc3)
            · first | exact num_set6 (num_set6 Nj2 BP (.bool js1) (.slice jo1 jn1 jc1) (.bool js2) (.slice jo2 jn2 jc2) (.bool js3) (.slice jo3 jn3 jc3)) BQ6 (.bool ks1) (.slice ko1 kn1 kc1) (.bool ks2) (.slice ko2 kn2 kc2) (.bool ks3) (.slice ko3 kn3 kc3) | exact num_set6 (num_set6 Nj2.drew BP (.bool js1) (.slice jo1 jn1 jc1) (.bool js2) (.slice jo2 jn2 jc2) (.bool js3) (.slice jo3 jn3 jc3)) BQ6 (.bool ks1) (.slice ko1 kn1 kc1) (.bool ks2) (.slice ko2 kn2 kc2) (.bool ks3) (.slice ko3 kn3 kc3)
            · first | exact num_set6 (num_set6 Nj3 BP (.bool js1) (.slice jo1 jn1 jc1) (.bool js2) (.slice jo2 jn2 jc2) (.bool js3) (.slice jo3 jn3 jc3)) BQ6 (.bool ks1) (.slice ko1 kn1 kc1) (.bool ks2) (.slice ko2 kn2 kc2) (.bool ks3) (.slice ko3 kn3 kc3) | exact num_set6 (num_set6 Nj3.drew BP (.bool js1) (.slice jo1 jn1 jc1) (.bool js2) (.slice jo2 jn2 jc2) (.bool js3) (.slice jo3 jn3 jc3)) BQ6 (.bool ks1) (.slice ko1 kn1 kc1) (.bool ks2) (.slice ko2 kn2 kc2) (.bool ks3) (.slice ko3 kn3 kc3)
            · first | exact num_set6 (num_set6 Nk1 BP (.bool js1) (.slice jo1 jn1 jc1) (.bool js2) (.slice jo2 jn2 jc2) (.bool js3) (.slice jo3 jn3 jc3)) BQ6 (.bool ks1) (.slice ko1 kn1 kc1) (.bool ks2) (.slice ko2 kn2 kc2) (.bool ks3) (.slice ko3 kn3 kc3) | exact num_set6 (num_set6 Nk1.drew BP (.bool js1) (.slice jo1 jn1 jc1) (.bool js2) (.slice jo2 jn2 jc2) (.bool js3) (.slice jo3 jn3 jc3)) BQ6 (.bool ks1) (.slice ko1 kn1 kc1) (.bool ks2) (.slice ko2 kn2 kc2) (.bool ks3) (.slice ko3 kn3 kc3)
            · first | exact num_set6 (num_set6 Nk2 BP (.bool js1) (.slice jo1 jn1 jc1) (.bool js2) (.slice jo2 jn2 jc2) (.bool js3) (.slice jo3 jn3 jc3)) BQ6 (.bool ks1) (.slice ko1 kn1 kc1) (.bool ks2) (.slice ko2 kn2 kc2) (.bool ks3) (.slice ko3 kn3 kc3) | exact num_set6 (num_set6 Nk2.drew BP (.bool js1) (.slice jo1 jn1 jc1) (.bool js2) (.slice jo2 jn2 jc2) (.bool js3) (.slice jo3 jn3 jc3)) BQ6 (.bool ks1) (.slice ko1 kn1 kc1) (.bool ks2) (.slice ko2 kn2 kc2) (.bool ks3) (.slice ko3 kn3 kc3)
            · first | exact num_set6 (num_set6 Nk3 BP (.bool js1) (.slice jo1 jn1 jc1) (.bool js2) (.slice jo2 jn2 jc2) (.bool js3) (.slice jo3 jn3 jc3)) BQ6 (.bool ks1) (.slice ko1 kn1 kc1) (.bool ks2) (.slice ko2 kn2 kc2) (.bool ks3) (.slice ko3 kn3 kc3) | exact num_set6 (num_set6 Nk3.drew BP (.bool js1) (.slice jo1 jn1 jc1) (.bool js2) (.slice jo2 jn2 jc2) (.bool js3) (.slice jo3 jn3 jc3)) BQ6 (.bool ks1) (.slice ko1 kn1 kc1) (.bool ks2) (.slice ko2 kn2 kc2) (.bool ks3) (.slice ko3 kn3 kc3))
end Go.Proofs.Ytibbjjlapglndaa
