/- Part 8 of the walks that the proof leans on. -/
import Derived.Test.YtbhhegmlfclhbaaPart3
import Derived.Test.YtbhhegmlfclhbaaPart7
import Derived.Test.YtbhhegmlfclhbaaPart2
import Derived.Test.YtbhhegmlfclhbaaPart4
/- A segment of two spots: the program's walk. -/
namespace Go.Proofs.Ytbhhegmlfclhbaa
open Go.RowKit
set_option maxRecDepth 100000 in
set_option maxHeartbeats 400000 in
theorem implSegOf_any (x y u v A B C D : Int) (l k : Bool) (hl : lessI u v x y = l) (hk : segOk A B C D = k) (hA : cond l u x = A) (hB : cond l v y = B) (hC : cond l x u = C) (hD : cond l y v = D) (w : World) :
    Calls Try.prog 50 #[Sp x y, Sp u v] w (VP (.tuple #[Sg (cond k A 0) (cond k B 0) (cond k C 0) (cond k D 0), .bool k]) w) := by
  cases l <;> simp only [cond_true, cond_false] at hA hB hC hD <;> subst hA hB hC hD
  · have B0 := Blk.new w [.int .i64 x, .int .i64 y] 38 rfl
    have HB0 : Below w.heap.size w _ := (Below.refl _ w).alloc (Nat.le_refl _) (.cells #[.int .i64 x, .int .i64 y] 38)
    have B1 := Blk.new (w.alloc (.cells #[.int .i64 x, .int .i64 y] 38)) [.int .i64 u, .int .i64 v] 38 (g := w.heap.size + 1) (by simp)
    replace B0 := B0.alloc (.cells #[.int .i64 u, .int .i64 v] 38)
    replace HB0 := HB0.alloc (by simp) (.cells #[.int .i64 u, .int .i64 v] 38)
    have B2 := Blk.new ((w.alloc (.cells #[.int .i64 x, .int .i64 y] 38)).alloc (.cells #[.int .i64 u, .int .i64 v] 38)) [.int .i64 0, .int .i64 0, .int .i64 0, .int .i64 0] 50 (g := w.heap.size + 1 + 1) (by simp)
    replace B0 := B0.alloc (.cells #[.int .i64 0, .int .i64 0, .int .i64 0, .int .i64 0] 50)
    replace B1 := B1.alloc (.cells #[.int .i64 0, .int .i64 0, .int .i64 0, .int .i64 0] 50)
    replace HB0 := HB0.alloc (by simp; omega) (.cells #[.int .i64 0, .int .i64 0, .int .i64 0, .int .i64 0] 50)
    have B3 := Blk.new (((w.alloc (.cells #[.int .i64 x, .int .i64 y] 38)).alloc (.cells #[.int .i64 u, .int .i64 v] 38)).alloc (.cells #[.int .i64 0, .int .i64 0, .int .i64 0, .int .i64 0] 50)) [.int .i64 x, .int .i64 y, .int .i64 u, .int .i64 v] 50 (g := w.heap.size + 1 + 1 + 1) (by simp)
    replace B0 := B0.alloc (.cells #[.int .i64 x, .int .i64 y, .int .i64 u, .int .i64 v] 50)
    replace B1 := B1.alloc (.cells #[.int .i64 x, .int .i64 y, .int .i64 u, .int .i64 v] 50)
    replace B2 := B2.alloc (.cells #[.int .i64 x, .int .i64 y, .int .i64 u, .int .i64 v] 50)
    replace HB0 := HB0.alloc (by simp; omega) (.cells #[.int .i64 x, .int .i64 y, .int .i64 u, .int .i64 v] 50)
    go_enter Try.func50, Try.ntmps50
    go_wp2_with fail
    refine (isAhead_any _ _ _ _ false hl _).mono ?_
    rintro e w1 ⟨rfl, hB⟩
    replace B0 := B0.step hB; replace B1 := B1.step hB; replace B2 := B2.step hB; replace B3 := B3.step hB
    have HB : Below w.heap.size w w1 := HB0.trans (hB.mono HB0.size)
    clear hB HB0
    have cB00 := B0.c 0 rfl; have fB00 := B0.f 0 rfl; have cB01 := B0.c 1 rfl; have fB01 := B0.f 1 rfl; have cB10 := B1.c 0 rfl; have fB10 := B1.f 0 rfl; have cB11 := B1.c 1 rfl; have fB11 := B1.f 1 rfl; have cB20 := B2.c 0 rfl; have fB20 := B2.f 0 rfl; have cB21 := B2.c 1 rfl; have fB21 := B2.f 1 rfl; have cB22 := B2.c 2 rfl; have fB22 := B2.f 2 rfl; have cB23 := B2.c 3 rfl; have fB23 := B2.f 3 rfl; have cB30 := B3.c 0 rfl; have fB30 := B3.f 0 rfl; have cB31 := B3.c 1 rfl; have fB31 := B3.f 1 rfl; have cB32 := B3.c 2 rfl; have fB32 := B3.f 2 rfl; have cB33 := B3.c 3 rfl; have fB33 := B3.f 3 rfl; have ltB0 := B0.lt; have ltB1 := B1.lt; have ltB2 := B2.lt; have ltB3 := B3.lt
    go_wp2_with fail
    have D2 := B2
    have D3 := B3
    have HC := HB
    refine (implSegOk_any _ _ _ _ k hk _).mono ?_
    rintro e w2 ⟨rfl, hB⟩
    replace D2 := D2.step hB
    replace D3 := D3.step hB
    have HD : Below w.heap.size w w2 := HC.trans (hB.mono HC.size)
    clear hB HC HB B0 B1 B2 B3 cB00 fB00 cB01 fB01 cB10 fB10 cB11 fB11 cB20 fB20 cB21 fB21 cB22 fB22 cB23 fB23 cB30 fB30 cB31 fB31 cB32 fB32 cB33 fB33 ltB0 ltB1 ltB2 ltB3
    have cD20 := D2.c 0 rfl; have fD20 := D2.f 0 rfl; have cD21 := D2.c 1 rfl; have fD21 := D2.f 1 rfl; have cD22 := D2.c 2 rfl; have fD22 := D2.f 2 rfl; have cD23 := D2.c 3 rfl; have fD23 := D2.f 3 rfl; have cD30 := D3.c 0 rfl; have fD30 := D3.f 0 rfl; have cD31 := D3.c 1 rfl; have fD31 := D3.f 1 rfl; have cD32 := D3.c 2 rfl; have fD32 := D3.f 2 rfl; have cD33 := D3.c 3 rfl; have fD33 := D3.f 3 rfl
    have ltD2 := D2.lt; have ltD3 := D3.lt
    cases k
    · go_wp2
      refine bodyPost_ret (v := .tuple #[Sg 0 0 0 0, .bool false]) (by simp [results, Try.results50, go_sem, cD20, cD21, cD22, cD23]) rfl ?_
      refine ⟨rfl, ?_⟩
      repeat' (refine Below.setCell ?_ (by simp; try omega) _)
      exact HD
    · go_wp2
      refine bodyPost_ret (v := .tuple #[Sg x y u v, .bool true]) (by simp [results, Try.results50, go_sem, cD20, cD21, cD22, cD23]) rfl ?_
      refine ⟨rfl, ?_⟩
      repeat' (refine Below.setCell ?_ (by simp; try omega) _)
      exact HD
  · have B0 := Blk.new w [.int .i64 x, .int .i64 y] 38 rfl
    have HB0 : Below w.heap.size w _ := (Below.refl _ w).alloc (Nat.le_refl _) (.cells #[.int .i64 x, .int .i64 y] 38)
    have B1 := Blk.new (w.alloc (.cells #[.int .i64 x, .int .i64 y] 38)) [.int .i64 u, .int .i64 v] 38 (g := w.heap.size + 1) (by simp)
    replace B0 := B0.alloc (.cells #[.int .i64 u, .int .i64 v] 38)
    replace HB0 := HB0.alloc (by simp) (.cells #[.int .i64 u, .int .i64 v] 38)
    have B2 := Blk.new ((w.alloc (.cells #[.int .i64 x, .int .i64 y] 38)).alloc (.cells #[.int .i64 u, .int .i64 v] 38)) [.int .i64 0, .int .i64 0, .int .i64 0, .int .i64 0] 50 (g := w.heap.size + 1 + 1) (by simp)
    replace B0 := B0.alloc (.cells #[.int .i64 0, .int .i64 0, .int .i64 0, .int .i64 0] 50)
    replace B1 := B1.alloc (.cells #[.int .i64 0, .int .i64 0, .int .i64 0, .int .i64 0] 50)
    replace HB0 := HB0.alloc (by simp; omega) (.cells #[.int .i64 0, .int .i64 0, .int .i64 0, .int .i64 0] 50)
    have B3 := Blk.new (((w.alloc (.cells #[.int .i64 x, .int .i64 y] 38)).alloc (.cells #[.int .i64 u, .int .i64 v] 38)).alloc (.cells #[.int .i64 0, .int .i64 0, .int .i64 0, .int .i64 0] 50)) [.int .i64 x, .int .i64 y, .int .i64 u, .int .i64 v] 50 (g := w.heap.size + 1 + 1 + 1) (by simp)
    replace B0 := B0.alloc (.cells #[.int .i64 x, .int .i64 y, .int .i64 u, .int .i64 v] 50)
    replace B1 := B1.alloc (.cells #[.int .i64 x, .int .i64 y, .int .i64 u, .int .i64 v] 50)
    replace B2 := B2.alloc (.cells #[.int .i64 x, .int .i64 y, .int .i64 u, .int .i64 v] 50)
    replace HB0 := HB0.alloc (by simp; omega) (.cells #[.int .i64 x, .int .i64 y, .int .i64 u, .int .i64 v] 50)
    go_enter Try.func50, Try.ntmps50
    go_wp2_with fail
    refine (isAhead_any _ _ _ _ true hl _).mono ?_
    rintro e w1 ⟨rfl, hB⟩
    replace B0 := B0.step hB; replace B1 := B1.step hB; replace B2 := B2.step hB; replace B3 := B3.step hB
    have HB : Below w.heap.size w w1 := HB0.trans (hB.mono HB0.size)
    clear hB HB0
    have cB00 := B0.c 0 rfl; have fB00 := B0.f 0 rfl; have cB01 := B0.c 1 rfl; have fB01 := B0.f 1 rfl; have cB10 := B1.c 0 rfl; have fB10 := B1.f 0 rfl; have cB11 := B1.c 1 rfl; have fB11 := B1.f 1 rfl; have cB20 := B2.c 0 rfl; have fB20 := B2.f 0 rfl; have cB21 := B2.c 1 rfl; have fB21 := B2.f 1 rfl; have cB22 := B2.c 2 rfl; have fB22 := B2.f 2 rfl; have cB23 := B2.c 3 rfl; have fB23 := B2.f 3 rfl; have cB30 := B3.c 0 rfl; have fB30 := B3.f 0 rfl; have cB31 := B3.c 1 rfl; have fB31 := B3.f 1 rfl; have cB32 := B3.c 2 rfl; have fB32 := B3.f 2 rfl; have cB33 := B3.c 3 rfl; have fB33 := B3.f 3 rfl; have ltB0 := B0.lt; have ltB1 := B1.lt; have ltB2 := B2.lt; have ltB3 := B3.lt
    go_wp2_with fail
    have D2 := ((((B2.setO (p := ⟨w.heap.size + 1 + 1 + 1, 0, none⟩) (by simp) (.int .i64 u)).setO (p := ⟨w.heap.size + 1 + 1 + 1, 1, none⟩) (by simp) (.int .i64 v)).setO (p := ⟨w.heap.size + 1 + 1 + 1, 2, none⟩) (by simp) (.int .i64 x)).setO (p := ⟨w.heap.size + 1 + 1 + 1, 3, none⟩) (by simp) (.int .i64 y))
    have D3 := ((((B3.setI 0 (by simp) (.int .i64 u)).setI 1 (by simp) (.int .i64 v)).setI 2 (by simp) (.int .i64 x)).setI 3 (by simp) (.int .i64 y))
    simp only [List.set_cons_zero, List.set_cons_succ] at D3
    have HC := ((((HB.setCell (p := ⟨w.heap.size + 1 + 1 + 1, 0, none⟩) (by simp; omega) (.int .i64 u)).setCell (p := ⟨w.heap.size + 1 + 1 + 1, 1, none⟩) (by simp; omega) (.int .i64 v)).setCell (p := ⟨w.heap.size + 1 + 1 + 1, 2, none⟩) (by simp; omega) (.int .i64 x)).setCell (p := ⟨w.heap.size + 1 + 1 + 1, 3, none⟩) (by simp; omega) (.int .i64 y))
    refine (implSegOk_any _ _ _ _ k hk _).mono ?_
    rintro e w2 ⟨rfl, hB⟩
    replace D2 := D2.step hB
    replace D3 := D3.step hB
    have HD : Below w.heap.size w w2 := HC.trans (hB.mono HC.size)
    clear hB HC HB B0 B1 B2 B3 cB00 fB00 cB01 fB01 cB10 fB10 cB11 fB11 cB20 fB20 cB21 fB21 cB22 fB22 cB23 fB23 cB30 fB30 cB31 fB31 cB32 fB32 cB33 fB33 ltB0 ltB1 ltB2 ltB3
    have cD20 := D2.c 0 rfl; have fD20 := D2.f 0 rfl; have cD21 := D2.c 1 rfl; have fD21 := D2.f 1 rfl; have cD22 := D2.c 2 rfl; have fD22 := D2.f 2 rfl; have cD23 := D2.c 3 rfl; have fD23 := D2.f 3 rfl; have cD30 := D3.c 0 rfl; have fD30 := D3.f 0 rfl; have cD31 := D3.c 1 rfl; have fD31 := D3.f 1 rfl; have cD32 := D3.c 2 rfl; have fD32 := D3.f 2 rfl; have cD33 := D3.c 3 rfl; have fD33 := D3.f 3 rfl
    have ltD2 := D2.lt; have ltD3 := D3.lt
    cases k
    · go_wp2
      refine bodyPost_ret (v := .tuple #[Sg 0 0 0 0, .bool false]) (by simp [results, Try.results50, go_sem, cD20, cD21, cD22, cD23]) rfl ?_
      refine ⟨rfl, ?_⟩
      repeat' (refine Below.setCell ?_ (by simp; try omega) _)
      exact HD
    · go_wp2
      refine bodyPost_ret (v := .tuple #[Sg u v x y, .bool true]) (by simp [results, Try.results50, go_sem, cD20, cD21, cD22, cD23]) rfl ?_
      refine ⟨rfl, ?_⟩
      repeat' (refine Below.setCell ?_ (by simp; try omega) _)
      exact HD
end Go.Proofs.Ytbhhegmlfclhbaa

/- A ring's sides: the walks of both sides. -/
namespace Go.Proofs.Ytbhhegmlfclhbaa
open Go.RowKit
set_option maxRecDepth 100000 in
set_option maxHeartbeats 4000000 in
theorem spotAfter_any (ao : Option Addr) (n cap : Nat) (p : Ps) (i : Nat) (hi : i < n) (hn : n ≤ 1048576) (w : World) (hS : SpIn w ao n p) : Calls Try.prog 45 #[.agg #[.slice ao n cap], .int .i64 (i : Int)] w (VP (Sp (p ((i + 1) % n)).1 (p ((i + 1) % n)).2) w) := by
  have hm : (i + 1) % n < n := Nat.mod_lt _ (by omega)
  obtain ⟨A, off, rfl, hA, q0, q1⟩ := hS _ hm
  have B0 := (Blk.new w [.slice (some ⟨A, off, none⟩) n cap] 26 rfl).alloc (.cells #[.int .i64 0, .int .i64 0] 38)
  have B1 := Blk.new (w.alloc (.cells #[.slice (some ⟨A, off, none⟩) n cap] 26)) [.int .i64 0, .int .i64 0] 38 (g := w.heap.size + 1) (by simp)
  have HB : Below w.heap.size w ((w.alloc (.cells #[.slice (some ⟨A, off, none⟩) n cap] 26)).alloc (.cells #[.int .i64 0, .int .i64 0] 38)) := ((Below.refl _ w).alloc (Nat.le_refl _) _).alloc (by simp) _
  replace q0 := (HB.cell (p := ⟨A, _, none⟩) hA).trans q0
  replace q1 := (HB.cell (p := ⟨A, _, none⟩) hA).trans q1
  have hrem : ((i : Int) + 1).tmod (n : Int) = (((i + 1) % n : Nat) : Int) := by
    rw [Int.tmod_eq_emod_of_nonneg (by omega), Int.natCast_emod]
    rfl
  have hadd : IntKind.i64.wrap ((i : Int) + 1) = (i : Int) + 1 := by rw [IntKind.wrap_i64]; omega
  have hmI : (((i + 1) % n : Nat) : Int) < n := by have := Nat.mod_lt (i + 1) (show 0 < n by omega); omega
  have hl0 : ¬ ((n : Int) = 0) := by omega
  have hl1 : ¬ (n = 0) := by omega
  have hne : A ≠ w.heap.size := by omega
  have hne1 : A ≠ w.heap.size + 1 := by omega
  go_enter Try.func45, Try.ntmps45
  go_upto_region 1 with fail
  generalize (w.alloc (.cells #[.slice (some ⟨A, off, none⟩) n cap] 26)).alloc (.cells #[.int .i64 0, .int .i64 0] 38) = W at *
  have HK : ∀ W', Below (w.heap.size + 1) W W' → (fun w' : World => w'.cell? ⟨w.heap.size, 0, none⟩ = some (.slice (some ⟨A, off, none⟩) n cap) ∧ w'.cell? ⟨A, off + ((i + 1) % n) * 2, none⟩ = some (.int .i64 (p ((i + 1) % n)).1) ∧ w'.cell? ⟨A, off + ((i + 1) % n) * 2 + 1, none⟩ = some (.int .i64 (p ((i + 1) % n)).2)) W' := fun W' h => ⟨(B0.below h (by omega)).c 0 rfl, (h.cell (p := ⟨A, _, none⟩) (by show A < w.heap.size + 1; omega)).trans q0, (h.cell (p := ⟨A, _, none⟩) (by show A < w.heap.size + 1; omega)).trans q1⟩
  have H0 : Below (w.heap.size + 1) W W := Below.refl _ _
  have z0 := B1.c 0 rfl; have z1 := B1.c 1 rfl; have y0 := B1.f 0 rfl; have y1 := B1.f 1 rfl; have zl := B1.lt
  have hI1 : (i : Int) < n := by omega
  have hnI : (n : Int) ≤ 1048576 := by omega
  clear hm hS B0 q0 q1
  generalize ((i + 1) % n) = e' at *
  go_region_held3 (fun w' : World => w'.cell? ⟨w.heap.size, 0, none⟩ = some (.slice (some ⟨A, off, none⟩) n cap) ∧ w'.cell? ⟨A, off + e' * 2, none⟩ = some (.int .i64 (p e').1) ∧ w'.cell? ⟨A, off + e' * 2 + 1, none⟩ = some (.int .i64 (p e').2)) (refine HK _ ?_ <;> repeat (first | (with_reducible exact H0) | (with_reducible refine Below.drew ?_) | (with_reducible refine Below.setCell ?_ (by first | exact Nat.le_refl _ | simp) _))) (fail)
  all_goals have RN : Blk ((W.setCell ⟨w.heap.size + 1, 0, none⟩ (.int .i64 (p e').1)).setCell ⟨w.heap.size + 1, 1, none⟩ (.int .i64 (p e').2)).drew (w.heap.size + 1) [.int .i64 (p e').1, .int .i64 (p e').2] := ((B1.setI 0 (by simp) _).setI 1 (by simp) _).drew
  all_goals have HN : Below w.heap.size w ((W.setCell ⟨w.heap.size + 1, 0, none⟩ (.int .i64 (p e').1)).setCell ⟨w.heap.size + 1, 1, none⟩ (.int .i64 (p e').2)).drew := ((HB.setCell (p := ⟨w.heap.size + 1, 0, none⟩) (by simp) _).setCell (p := ⟨w.heap.size + 1, 1, none⟩) (by simp) _).drew
  all_goals have r0 := RN.c 0 rfl; have r1 := RN.c 1 rfl
  all_goals go_wp2
  all_goals refine bodyPost_ret (v := Sp (p e').1 (p e').2) (by simp [results, Try.results45, go_sem, r0, r1]) rfl ?_
  all_goals exact ⟨rfl, HN⟩
/-- The greatest kind of meeting that two sides may have. -/
def moI (n i j : Nat) : Int := if i + 1 = j ∨ j + 1 = i ∨ i + n = j + 1 ∨ j + n = i + 1 then 1 else 0
set_option maxRecDepth 100000 in
set_option maxHeartbeats 4000000 in
theorem most_any (ao : Option Addr) (n cap : Nat) (i j : Nat) (hi : i < n) (hj : j < n) (hn : n ≤ 1048576) (h3 : 2 ≤ n) (w : World) : Calls Try.prog 35 #[.agg #[.slice ao n cap], .int .i64 (i : Int), .int .i64 (j : Int)] w (VP (.int .i64 (moI n i j)) w) := by
  have HB : Below w.heap.size w (w.alloc (.cells #[.slice ao n cap] 26)) := (Below.refl _ w).alloc (Nat.le_refl _) _
  have B0 := Blk.new w [.slice ao n cap] 26 rfl
  have s1 : IntKind.i64.wrap ((i : Int) - j) = (i : Int) - j := by rw [IntKind.wrap_i64]; omega
  have s2 : IntKind.i64.wrap ((j : Int) - i) = (j : Int) - i := by rw [IntKind.wrap_i64]; omega
  have s3 : IntKind.i64.wrap ((n : Int) - 1) = (n : Int) - 1 := by rw [IntKind.wrap_i64]; omega
  have b0 := B0.c 0 rfl
  go_enter Try.func35, Try.ntmps35
  go_upto_region 1 with fail
  generalize (w.alloc (.cells #[.slice ao n cap] 26)) = W at *
  go_upto_region 2 with fail
  generalize hz : (if (i : Int) - j < (j : Int) - i then (j : Int) - i else (i : Int) - j) = z at *
  have hz2 : (z = (i : Int) - j ∧ (j : Int) ≤ i) ∨ (z = (j : Int) - i ∧ (i : Int) ≤ j) := by
    rw [← hz]
    split <;> omega
  clear hz s1 s2
  by_cases a1 : z = 1
  · have HO : Hid (moI n i j = 1) := by show _ = _; unfold moI; rw [if_pos (by omega)]
    subst a1
    clear hz2 B0
    go_wp2
    go_ret
    exact ⟨by rw [HO.out]; rfl, HB⟩
  · have a1' : (z == 1) = false := beq_eq_false_iff_ne.2 a1
    by_cases a2 : z = (n : Int) - 1
    · have HO : Hid (moI n i j = 1) := by show _ = _; unfold moI; rw [if_pos (by omega)]
      have a2' : (z == (n : Int) - 1) = true := by rw [a2]; exact beq_self_eq_true _
      clear hz2 B0 a1 a2
      go_wp2
      go_ret
      exact ⟨by rw [HO.out]; rfl, HB⟩
    · have HO : Hid (moI n i j = 0) := by show _ = _; unfold moI; rw [if_neg (by omega)]
      have a2' : (z == (n : Int) - 1) = false := beq_eq_false_iff_ne.2 a2
      clear hz2 B0 a1 a2
      go_wp2
      go_ret
      exact ⟨by rw [HO.out]; rfl, HB⟩
set_option maxRecDepth 100000 in
set_option maxHeartbeats 4000000 in
theorem wrong_any (ao : Option Addr) (n cap : Nat) (p : Ps) (hn : n ≤ 1048576) (w : World) (hS : SpIn w ao n p) : Calls Try.prog 16 #[.agg #[.slice ao n cap]] w (VP (.bool (decide (¬ (∀ i, i < n → spotOk (p i).1 (p i).2 = true)))) w) := by
  have B0 := Blk.new w [.slice ao n cap] 26 rfl
  have HB0 : Below w.heap.size w (w.alloc (.cells #[.slice ao n cap] 26)) := (Below.refl _ w).alloc (Nat.le_refl _) _
  have hmI : (n : Int) ≤ 1048576 := by omega
  have HS : Hid (SpIn (w.alloc (.cells #[.slice ao n cap] 26)) ao n p) := hS.step HB0
  clear hS
  go_enter Try.func16, Try.ntmps16
  have b0 := B0.c 0 rfl
  go_wp2_with fail
  generalize (w.alloc (.cells #[.slice ao n cap] 26)) = W1 at *
  go_loopw [8] (fun i wr => ∃ c : Nat, c ≤ n ∧ i = .int .i64 c ∧ (∀ j, j < c → spotOk (p j).1 (p j).2 = true) ∧ Below W1.heap.size W1 wr) (fun i _ => n - (intOf i).toNat)
  case atStart => exact ⟨0, by omega, rfl, fun j hj => by omega, Below.refl _ _⟩
  case round =>
    obtain ⟨c, hc, rfl, hall, HB⟩ := hrel
    have HA : Hid (∀ j, j < c → spotOk (p j).1 (p j).2 = true) := hall
    clear hall b0
    by_cases hcn : c < n
    · obtain ⟨A, off, rfl, hA, q0, q1⟩ := HS.out.step HB c hcn
      have hcI : (c : Int) < n := by omega
      clear B0
      go_wp2_with fail
      refine (implSpotOk_any (p c).1 (p c).2 _ rfl _).mono ?_
      rintro e w1 ⟨rfl, hB⟩
      replace HB := (HB.alloc HB.size _).trans (hB.mono (HB.alloc HB.size _).size)
      clear hB q0 q1 hA
      by_cases hk : spotOk (p c).1 (p c).2 = true
      · rw [hk]
        have HK : Hid (spotOk (p c).1 (p c).2 = true) := hk
        clear hk
        go_wp2
        go_roundw
        case rel => exact ⟨c + 1, by omega, by go_num, fun j hj => by
          rcases Nat.lt_or_ge j c with h | h
          · exact HA.out j h
          · obtain rfl : j = c := by omega
            exact HK.out, HB⟩
        case measure => simp [intOf]; omega
      · have HO : Hid (decide (¬ (∀ i, i < n → spotOk (p i).1 (p i).2 = true)) = true) := decide_eq_true (fun h => hk (h c hcn))
        rw [Bool.eq_false_iff.2 hk]
        have HBF := HB0.trans (HB.mono HB0.size)
        clear hk
        go_wp2
        go_ret
        exact ⟨by rw [HO.out]; rfl, HBF⟩
    · obtain rfl : c = n := by omega
      have HO : Hid (decide (¬ (∀ i, i < c → spotOk (p i).1 (p i).2 = true)) = false) := decide_eq_false (fun h => h HA.out)
      have HBF := HB0.trans (HB.mono HB0.size)
      clear HA HS B0
      go_wp2
      go_ret
      exact ⟨by rw [HO.out]; rfl, HBF⟩
end Go.Proofs.Ytbhhegmlfclhbaa

/- Whether a spot stands twice in a ring: the program's walk. -/
namespace Go.Proofs.Ytbhhegmlfclhbaa
open Go.RowKit
theorem eqSp2 (x y u v : Int) (w : World) : (Op.equalIn 10000 38 (Sp x y) (Sp u v)).run Try.prog w = .ok (decide (x = u) && decide (y = v)) w := by
  have u3 := Try.underlying2
  have a3 := Try.isAgg2
  have z3 := Try.sizeOf2
  rw [show (10000 : Nat) = 9999 + 1 from rfl, Op.equalIn]
  simp only [Sem.run_bind, run_underlying Try.underlying38, Result.andThen_ok]
  go_simp
  by_cases h1 : x = u
  · by_cases h2 : y = v
    · simp [h1, h2]
    · simp [h1, h2]
  · simp [h1]
/-- Whether a spot is among the first ones. -/
def amB (n : Nat) (p : Ps) (x y : Int) : Bool := decide (∃ i, i < n ∧ (p i).1 = x ∧ (p i).2 = y)
set_option maxRecDepth 100000 in
set_option maxHeartbeats 4000000 in
theorem index_any (ao : Option Addr) (n cap : Nat) (p : Ps) (x y : Int) (hn : n ≤ 1048576) (w : World) (hS : SpIn w ao n p) : Calls Try.prog 52 #[.slice ao n cap, Sp x y] w (fun e w' => ∃ k : Int, e = .returned (.int .i64 k) ∧ decide (0 ≤ k) = amB n p x y ∧ Below w.heap.size w w') := by
  have B0 := Blk.new w [.int .i64 x, .int .i64 y] 38 rfl
  have HB0 : Below w.heap.size w (w.alloc (.cells #[.int .i64 x, .int .i64 y] 38)) := (Below.refl _ w).alloc (Nat.le_refl _) _
  have hmI : (n : Int) ≤ 1048576 := by omega
  have HS : Hid (SpIn (w.alloc (.cells #[.int .i64 x, .int .i64 y] 38)) ao n p) := hS.step HB0
  clear hS
  go_enter Try.func52, Try.ntmps52
  go_wp2_with fail
  generalize (w.alloc (.cells #[.int .i64 x, .int .i64 y] 38)) = W1 at *
  go_loopw [8] (fun i wr => ∃ c : Nat, c ≤ n ∧ i = .int .i64 c ∧ (∀ j, j < c → ¬ ((p j).1 = x ∧ (p j).2 = y)) ∧ Below W1.heap.size W1 wr) (fun i _ => n - (intOf i).toNat)
  case atStart => exact ⟨0, by omega, rfl, fun j hj => by omega, Below.refl _ _⟩
  case round =>
    obtain ⟨c, hc, rfl, hall, HB⟩ := hrel
    have HA : Hid (∀ j, j < c → ¬ ((p j).1 = x ∧ (p j).2 = y)) := hall
    clear hall
    by_cases hcn : c < n
    · obtain ⟨A, off, rfl, hA, q0, q1⟩ := HS.out.step HB c hcn
      have hcI : (c : Int) < n := by omega
      replace B0 := B0.step HB
      have b0 := B0.c 0 rfl; have b1 := B0.c 1 rfl
      have EQ := eqSp2 x y (p c).1 (p c).2
      have KS : (fun w' : World => w'.cell? ⟨w.heap.size, 0, none⟩ = some (.int .i64 x) ∧ w'.cell? ⟨w.heap.size, 1, none⟩ = some (.int .i64 y) ∧ w'.cell? ⟨A, off + c * 2, none⟩ = some (.int .i64 (p c).1) ∧ w'.cell? ⟨A, off + c * 2 + 1, none⟩ = some (.int .i64 (p c).2)) wr := ⟨b0, b1, q0, q1⟩
      go_upto_region 4 with fail
      go_region_held3 (fun w' : World => w'.cell? ⟨w.heap.size, 0, none⟩ = some (.int .i64 x) ∧ w'.cell? ⟨w.heap.size, 1, none⟩ = some (.int .i64 y) ∧ w'.cell? ⟨A, off + c * 2, none⟩ = some (.int .i64 (p c).1) ∧ w'.cell? ⟨A, off + c * 2 + 1, none⟩ = some (.int .i64 (p c).2)) (exact KS) (fail)
      all_goals have HBF := HB0.trans (HB.drew.mono HB0.size)
      all_goals clear KS b0 b1 q0 q1 EQ B0 hA HS
      all_goals by_cases h : x = (p c).1 ∧ y = (p c).2
      all_goals first
        | (obtain ⟨h1, h2⟩ := h
           have HO : Hid (decide (0 ≤ (c : Int)) = amB n p x y) := by
             show _ = _
             rw [decide_eq_true (by omega), eq_comm]
             exact decide_eq_true ⟨c, hcn, h1.symm, h2.symm⟩
           have d1 : (decide (x = (p c).1) && decide (y = (p c).2)) = true := by simp [h1, h2]
           rw [d1]
           clear d1 h1 h2 HA
           go_wp2
           go_ret
           exact ⟨(c : Int), rfl, HO.out, HBF⟩)
        | (have d1 : (decide (x = (p c).1) && decide (y = (p c).2)) = false := by
             rw [Bool.eq_false_iff]
             intro hh
             simp at hh
             exact h hh
           have HH : Hid (¬ (x = (p c).1 ∧ y = (p c).2)) := h
           rw [d1]
           clear d1 h HBF
           have HBD := HB.drew
           clear HB
           go_wp2
           go_roundw)
      case rel => exact ⟨c + 1, by omega, by go_num, fun j hj => by
        rcases Nat.lt_or_ge j c with h | h
        · exact HA.out j h
        · obtain rfl : j = c := by omega
          exact fun k => HH.out ⟨k.1.symm, k.2.symm⟩, HBD⟩
      case measure => simp [intOf]; omega
    · obtain rfl : c = n := by omega
      have HO : Hid (decide (0 ≤ (-1 : Int)) = amB c p x y) := by
        show _ = _
        rw [decide_eq_false (by omega), eq_comm]
        exact decide_eq_false (fun ⟨i, hi, h⟩ => HA.out i hi h)
      have HBF := HB0.trans (HB.mono HB0.size)
      clear HA HS B0
      go_wp2
      go_ret
      exact ⟨-1, rfl, HO.out, HBF⟩
set_option maxRecDepth 100000 in
set_option maxHeartbeats 4000000 in
theorem contains_any (ao : Option Addr) (n cap : Nat) (p : Ps) (x y : Int) (hn : n ≤ 1048576) (w : World) (hS : SpIn w ao n p) : Calls Try.prog 33 #[.slice ao n cap, Sp x y] w (VP (.bool (amB n p x y)) w) := by
  have B0 := Blk.new w [.int .i64 x, .int .i64 y] 38 rfl
  have HB0 : Below w.heap.size w (w.alloc (.cells #[.int .i64 x, .int .i64 y] 38)) := (Below.refl _ w).alloc (Nat.le_refl _) _
  have HS := hS.step HB0
  clear hS
  have b0 := B0.c 0 rfl; have b1 := B0.c 1 rfl
  go_enter Try.func33, Try.ntmps33
  go_wp2_with fail
  refine (index_any ao n cap p x y hn _ HS).mono ?_
  rintro e w1 ⟨k, rfl, hk, hB⟩
  have HBF := HB0.trans (hB.mono HB0.size)
  have HO : Hid (decide (0 ≤ k) = amB n p x y) := hk
  clear hB B0 b0 b1 HS hk
  go_wp2
  go_ret
  exact ⟨by rw [← HO.out]; rfl, HBF⟩
set_option maxRecDepth 100000 in
set_option maxHeartbeats 4000000 in
theorem twice_any (ao : Option Addr) (n cap : Nat) (p : Ps) (hn : n ≤ 1048576) (w : World) (hS : SpIn w ao n p) (hcap : n ≤ cap) (hcap2 : cap ≤ 9223372036854775807) : Calls Try.prog 17 #[.agg #[.slice ao n cap]] w (VP (.bool (decide (¬ OneN n p))) w) := by
  have B0 := Blk.new w [.slice ao n cap] 26 rfl
  have HB0 : Below w.heap.size w (w.alloc (.cells #[.slice ao n cap] 26)) := (Below.refl _ w).alloc (Nat.le_refl _) _
  have hmI : (n : Int) ≤ 1048576 := by omega
  have hcI1 : (n : Int) ≤ cap := by omega
  have hcI2 : (cap : Int) ≤ 9223372036854775807 := by omega
  have HS : Hid (SpIn (w.alloc (.cells #[.slice ao n cap] 26)) ao n p) := hS.step HB0
  clear hS
  go_enter Try.func17, Try.ntmps17
  have b0 := B0.c 0 rfl
  go_wp2_with fail
  generalize (w.alloc (.cells #[.slice ao n cap] 26)) = W1 at *
  go_loopw [8] (fun i wr => ∃ c : Nat, c ≤ n ∧ i = .int .i64 c ∧ (∀ j, j < c → ∀ k, k < j → p j ≠ p k) ∧ Below W1.heap.size W1 wr) (fun i _ => n - (intOf i).toNat)
  case atStart => exact ⟨0, by omega, rfl, fun j hj => by omega, Below.refl _ _⟩
  case round =>
    obtain ⟨c, hc, rfl, hall, HB⟩ := hrel
    have HA : Hid (∀ j, j < c → ∀ k, k < j → p j ≠ p k) := hall
    clear hall b0
    by_cases hcn : c < n
    · obtain ⟨A, off, rfl, hA, q0, q1⟩ := HS.out.step HB c hcn
      have hcI : (c : Int) < n := by omega
      have hcc : (c : Int) ≤ cap := by omega
      have hc0 : (0 : Int) ≤ c := by omega
      have HSc : SpIn wr (some ⟨A, off, none⟩) c p := fun i hi => HS.out.step HB i (by omega)
      replace B0 := B0.step HB
      have hB1 := (Below.refl wr.heap.size wr).alloc (Nat.le_refl _) (.cells #[.int .i64 (p c).1, .int .i64 (p c).2] 38)
      have HBA := HB.alloc HB.size (.cells #[.int .i64 (p c).1, .int .i64 (p c).2] 38)
      have Bs := Blk.new wr [.int .i64 (p c).1, .int .i64 (p c).2] 38 rfl
      replace B0 := B0.step hB1
      replace HSc := HSc.step hB1
      have CO := fun w h => contains_any (some ⟨A, off, none⟩) c cap p (p c).1 (p c).2 (by omega) w h
      have KS : (fun w' : World => w'.cell? ⟨w.heap.size, 0, none⟩ = some (.slice (some ⟨A, off, none⟩) n cap) ∧ w'.cell? ⟨wr.heap.size, 0, none⟩ = some (.int .i64 (p c).1) ∧ w'.cell? ⟨wr.heap.size, 1, none⟩ = some (.int .i64 (p c).2)) (wr.alloc (.cells #[.int .i64 (p c).1, .int .i64 (p c).2] 38)) := ⟨B0.c 0 rfl, Bs.c 0 rfl, Bs.c 1 rfl⟩
      clear hB1 HB
      go_upto_region 4 with fail
      generalize wr.alloc (.cells #[.int .i64 (p c).1, .int .i64 (p c).2] 38) = W2 at *
      go_region_held3 (fun w' : World => w'.cell? ⟨w.heap.size, 0, none⟩ = some (.slice (some ⟨A, off, none⟩) n cap) ∧ w'.cell? ⟨wr.heap.size, 0, none⟩ = some (.int .i64 (p c).1) ∧ w'.cell? ⟨wr.heap.size, 1, none⟩ = some (.int .i64 (p c).2)) (first | (exact KS) | (exact KS'))
        (first
          | (go_at_call 33; refine (CO _ (by first | (with_reducible exact HSc) | (with_reducible exact HSc.drew))).mono ?_; rintro e w1 ⟨rfl, hB⟩; (first | (have KS' : (fun w' : World => w'.cell? ⟨w.heap.size, 0, none⟩ = some (.slice (some ⟨A, off, none⟩) n cap) ∧ w'.cell? ⟨wr.heap.size, 0, none⟩ = some (.int .i64 (p c).1) ∧ w'.cell? ⟨wr.heap.size, 1, none⟩ = some (.int .i64 (p c).2)) w1 := ⟨(B0.step hB).c 0 rfl, (Bs.step hB).c 0 rfl, (Bs.step hB).c 1 rfl⟩; have HBN := HBA.trans (hB.mono HBA.size)) | (have KS' : (fun w' : World => w'.cell? ⟨w.heap.size, 0, none⟩ = some (.slice (some ⟨A, off, none⟩) n cap) ∧ w'.cell? ⟨wr.heap.size, 0, none⟩ = some (.int .i64 (p c).1) ∧ w'.cell? ⟨wr.heap.size, 1, none⟩ = some (.int .i64 (p c).2)) w1 := ⟨(B0.drew.step hB).c 0 rfl, (Bs.drew.step hB).c 0 rfl, (Bs.drew.step hB).c 1 rfl⟩; have HBN := HBA.drew.trans (hB.mono HBA.drew.size))); clear hB))
      all_goals clear KS KS' CO HSc Bs B0 HBA hA q0 q1
      all_goals cases ham : amB c p (p c).1 (p c).2
      all_goals first
        | (have HN : Hid (∀ k, k < c → p c ≠ p k) := fun k hk e => by
             have := of_decide_eq_false ham
             exact this ⟨k, hk, by rw [e], by rw [e]⟩
           clear ham
           go_wp2
           go_roundw)
        | (have HO : Hid (decide (¬ OneN n p) = true) := decide_eq_true (fun h => by
             obtain ⟨k, hk, e1, e2⟩ := of_decide_eq_true ham
             exact h c hcn k hk (Prod.ext e1.symm e2.symm))
           have HBF := HB0.trans (HBN.mono HB0.size)
           clear ham
           go_wp2
           go_ret
           exact ⟨by rw [HO.out]; rfl, HBF⟩)
      case rel => exact ⟨c + 1, by omega, by go_num, fun j hj => by
        rcases Nat.lt_or_ge j c with h | h
        · exact HA.out j h
        · obtain rfl : j = c := by omega
          exact HN.out, HBN⟩
      case measure => simp [intOf]; omega
    · obtain rfl : c = n := by omega
      have HO : Hid (decide (¬ OneN c p) = false) := decide_eq_false (fun h => h HA.out)
      have HBF := HB0.trans (HB.mono HB0.size)
      clear HA HS B0
      go_wp2
      go_ret
      exact ⟨by rw [HO.out]; rfl, HBF⟩
end Go.Proofs.Ytbhhegmlfclhbaa

/- The determinant of three points and its sign, the turn: the program's walks. -/
namespace Go.Proofs.Ytbhhegmlfclhbaa
open Go.RowKit
end Go.Proofs.Ytbhhegmlfclhbaa

/- The turn of three points: both sides. -/
namespace Go.Proofs.Ytbhhegmlfclhbaa
open Go.RowKit
end Go.Proofs.Ytbhhegmlfclhbaa

/- On which side of a segment a point lies: both sides. -/
namespace Go.Proofs.Ytbhhegmlfclhbaa
open Go.RowKit
theorem l3Spot_det (a b : Int) (ha : -1000000 ≤ a ∧ a ≤ 1000000) (hb : -1000000 ≤ b ∧ b ≤ 1000000) (w : World) : Calls Try.prog 39 #[Sp a b] w (L3P 8 a b 1 w) := by
  refine (l3Spot_any a b (by omega) (by omega) (by omega) (by omega) w).mono ?_
  rintro e w' ⟨s1, o1, n1, c1, d1, s2, o2, n2, c2, d2, s3, o3, n3, c3, d3, rfl, N1, N2, N3, hB⟩
  exact ⟨s1, o1, n1, c1, d1, s2, o2, n2, c2, d2, s3, o3, n3, c3, d3, rfl, num_more N1 (by omega), num_more N2 (by omega), num_more N3 (by omega), hB⟩
end Go.Proofs.Ytbhhegmlfclhbaa

/- What the walks of the laws over two numbers of four words share. -/
namespace Go.Proofs.Ytbhhegmlfclhbaa
open Go.RowKit
/-- A number that was told lies in the block g, its flag beside it. -/
def LayP (z : Int) (w wx : World) (g : Nat) (x3 x2 x1 x0 : Int) (t : Bool) : Prop :=
  Wd wx g x3 x2 x1 x0 ∧ w.heap.size + 1 < g ∧ ∃ u v, TellP z u (.returned (.tuple #[.agg #[.int .u64 x3, .int .u64 x2, .int .u64 x1, .int .u64 x0], .bool t])) v
theorem LayP.step {z : Int} {w W W' : World} {g : Nat} {x3 x2 x1 x0 : Int} {t : Bool} (h : LayP z w W g x3 x2 x1 x0 t) (hb : Below W.heap.size W W') : LayP z w W' g x3 x2 x1 x0 t := ⟨h.1.step hb, h.2⟩
theorem LayP.alloc {z : Int} {w W : World} {g : Nat} {x3 x2 x1 x0 : Int} {t : Bool} (h : LayP z w W g x3 x2 x1 x0 t) (o : Obj) : LayP z w (W.alloc o) g x3 x2 x1 x0 t := ⟨h.1.alloc o, h.2⟩
theorem LayP.drew {z : Int} {w W : World} {g : Nat} {x3 x2 x1 x0 : Int} {t : Bool} (h : LayP z w W g x3 x2 x1 x0 t) : LayP z w W.drew g x3 x2 x1 x0 t := ⟨h.1.drew, h.2⟩
theorem LayP.set {z : Int} {w W : World} {g R : Nat} {x3 x2 x1 x0 : Int} {t : Bool} (h : LayP z w W g x3 x2 x1 x0 t) (hne : g ≠ R) (u0 u1 u2 u3 : Value) : LayP z w ((((W.setCell ⟨R, 0, none⟩ u0).setCell ⟨R, 1, none⟩ u1).setCell ⟨R, 2, none⟩ u2).setCell ⟨R, 3, none⟩ u3) g x3 x2 x1 x0 t := ⟨h.1.set hne _ _ _ _, h.2⟩
end Go.Proofs.Ytbhhegmlfclhbaa

/- Fractions of two numbers: the program's, the model's; and when two fractions are one. -/
namespace Go.Proofs.Ytbhhegmlfclhbaa
open Go.RowKit
end Go.Proofs.Ytbhhegmlfclhbaa

/- Differences of spots, their products: the program's walks. -/
namespace Go.Proofs.Ytbhhegmlfclhbaa
open Go.RowKit
abbrev In2 (x : Int) : Prop := -2000000 ≤ x ∧ x ≤ 2000000
abbrev In1 (x : Int) : Prop := -1000000 ≤ x ∧ x ≤ 1000000
theorem mul_in {p q M N : Int} (h1 : -M ≤ p) (h2 : p ≤ M) (h3 : -N ≤ q) (h4 : q ≤ N) : -(M * N) ≤ p * q ∧ p * q ≤ M * N := by
  have hM : 0 ≤ M := by omega
  have hN : 0 ≤ N := by omega
  have a1 : 0 ≤ (M - p) * (N - q) := Int.mul_nonneg (by omega) (by omega)
  have a2 : 0 ≤ (M + p) * (N + q) := Int.mul_nonneg (by omega) (by omega)
  have a3 : 0 ≤ (M - p) * (N + q) := Int.mul_nonneg (by omega) (by omega)
  have a4 : 0 ≤ (M + p) * (N - q) := Int.mul_nonneg (by omega) (by omega)
  constructor <;> grind
theorem prod2 {p q : Int} (hp : In2 p) (hq : In2 q) : -4000000000000 ≤ p * q ∧ p * q ≤ 4000000000000 := mul_in (M := 2000000) (N := 2000000) hp.1 hp.2 hq.1 hq.2
theorem minusS_det (x y u v : Int) (hx : In1 x) (hy : In1 y) (hu : In1 u) (hv : In1 v) (w : World) : Calls Try.prog 75 #[Sp x y, Sp u v] w (VP (Sp (x - u) (y - v)) w) := by
  obtain ⟨x1, x2⟩ := hx; obtain ⟨y1, y2⟩ := hy; obtain ⟨u1, u2⟩ := hu; obtain ⟨v1, v2⟩ := hv
  go_enter Try.func75, Try.ntmps75
  go_wp2
  refine bodyPost_ret (v := Sp (x - u) (y - v)) (by simp [results, Try.results75, go_sem]) rfl ?_
  exact ⟨rfl, (((Below.refl _ _).alloc (Nat.le_refl _) _).alloc (by simp) _).alloc (by simp; omega) _⟩
theorem cross_det (x y u v : Int) (hx : In2 x) (hy : In2 y) (hu : In2 u) (hv : In2 v) (w : World) : Calls Try.prog 44 #[Sp x y, Sp u v] w (VP (.int .i64 (x * v - y * u)) w) := by
  obtain ⟨p1, p2⟩ := prod2 hx hv; obtain ⟨q1, q2⟩ := prod2 hy hu
  clear hx hy hu hv
  go_enter Try.func44, Try.ntmps44
  go_wp2
  go_ret
  exact ⟨rfl, ((Below.refl _ _).alloc (Nat.le_refl _) _).alloc (by simp) _⟩
/-- Two rows of two values, each in a block of its own. -/
def CutG (w wx : World) (vss : List (List Value)) (us vs : List Value) (p q : Value) : Prop :=
  ∃ g g', p = .pointer (some ⟨g, 0, none⟩) ∧ q = .pointer (some ⟨g', 0, none⟩) ∧ g ≠ g' ∧ w.heap.size + vss.length ≤ g ∧ w.heap.size + vss.length ≤ g' ∧ ArgsB w wx vss ∧ Blk wx g us ∧ Blk wx g' vs
theorem cutG_nn {w X : World} {vss : List (List Value)} {us vs : List Value} {T T' : TypeId} (h : ArgsB w X vss) (hl : w.heap.size + vss.length ≤ X.heap.size) : CutG w ((X.alloc (.cells us.toArray T)).alloc (.cells vs.toArray T')) vss us vs (.pointer (some ⟨X.heap.size, 0, none⟩)) (.pointer (some ⟨X.heap.size + 1, 0, none⟩)) :=
  ⟨_, _, rfl, rfl, by omega, hl, by omega, (h.alloc _).alloc _, (Blk.new X us T rfl).alloc _, Blk.new _ vs T' (by simp)⟩
theorem cutG_nn' {w X : World} {vss : List (List Value)} {us vs : List Value} {T T' : TypeId} (h : ArgsB w X vss) (hl : w.heap.size + vss.length ≤ X.heap.size) : CutG w ((X.alloc (.cells vs.toArray T)).alloc (.cells us.toArray T')) vss us vs (.pointer (some ⟨X.heap.size + 1, 0, none⟩)) (.pointer (some ⟨X.heap.size, 0, none⟩)) :=
  ⟨_, _, rfl, rfl, by omega, by omega, hl, (h.alloc _).alloc _, Blk.new _ us T' (by simp), (Blk.new X vs T rfl).alloc _⟩
end Go.Proofs.Ytbhhegmlfclhbaa

/- Turns of spots, lines and where they cross, parts of two spots: the walks that Meet leans on. -/
namespace Go.Proofs.Ytbhhegmlfclhbaa
open Go.RowKit
def turnZ (a b c d x y : Int) : Int := (c - a) * (y - b) - (d - b) * (x - a)
def sgZ (z : Int) : Int := if z < 0 then -1 else if 0 < z then 1 else 0
theorem ret_i {k : IntKind} {a b : Int} (h : b = a) : Ending.returned (.int k a) = .returned (.int k b) := by rw [h]
set_option maxRecDepth 100000 in
theorem l4TurnZ_det (a b c d x y : Int) (ha : In1 a) (hb : In1 b) (hc : In1 c) (hd : In1 d) (hx : In1 x) (hy : In1 y) (w : World) :
    Calls Try.prog 37 #[Sp a b, Sp c d, Sp x y] w (VP (.int .i64 (sgZ (turnZ a b c d x y))) w) := by
  have HR : turnZ a b c d x y = (c - a) * (y - b) - (d - b) * (x - a) := rfl
  obtain ⟨a1, a2⟩ := ha; obtain ⟨b1, b2⟩ := hb; obtain ⟨c1, c2⟩ := hc; obtain ⟨d1, d2⟩ := hd; obtain ⟨x1, x2⟩ := hx; obtain ⟨y1, y2⟩ := hy
  obtain ⟨p1, p2⟩ := mul_in (p := c - a) (q := y - b) (M := 2000000) (N := 2000000) (by omega) (by omega) (by omega) (by omega)
  obtain ⟨q1, q2⟩ := mul_in (p := d - b) (q := x - a) (M := 2000000) (N := 2000000) (by omega) (by omega) (by omega) (by omega)
  obtain ⟨p, hp⟩ : ∃ p, (c - a) * (y - b) = p := ⟨_, rfl⟩
  obtain ⟨q, hq⟩ : ∃ q, (d - b) * (x - a) = q := ⟨_, rfl⟩
  rw [hp] at p1 p2 HR
  rw [hq] at q1 q2 HR
  rw [HR]
  clear HR
  go_enter Try.func37, Try.ntmps37
  go_wp2
  all_goals go_ret
  all_goals exact ⟨ret_i (by unfold sgZ; split <;> (try split) <;> omega), (((Below.refl _ _).alloc (Nat.le_refl _) _).alloc (by simp) _).alloc (by simp; omega) _⟩
theorem turnZ_cells {a b c d x y : Int} {w W : World} (h : ArgsB w W [[.int .i64 a, .int .i64 b, .int .i64 c, .int .i64 d], [.int .i64 x, .int .i64 y]]) : (fun w' => w'.cell? ⟨w.heap.size, 0, none⟩ = some (.int .i64 a) ∧ w'.cell? ⟨w.heap.size, 1, none⟩ = some (.int .i64 b) ∧ w'.cell? ⟨w.heap.size, 2, none⟩ = some (.int .i64 c) ∧ w'.cell? ⟨w.heap.size, 3, none⟩ = some (.int .i64 d) ∧ w'.cell? ⟨w.heap.size + 1, 0, none⟩ = some (.int .i64 x) ∧ w'.cell? ⟨w.heap.size + 1, 1, none⟩ = some (.int .i64 y)) W :=
  ⟨(h.b 0 rfl).c 0 rfl, (h.b 0 rfl).c 1 rfl, (h.b 0 rfl).c 2 rfl, (h.b 0 rfl).c 3 rfl, (h.b 1 rfl).c 0 rfl, (h.b 1 rfl).c 1 rfl⟩
set_option maxRecDepth 100000 in
set_option maxHeartbeats 1000000 in
theorem turnToZ_det (a b c d x y : Int) (ha : In1 a) (hb : In1 b) (hc : In1 c) (hd : In1 d) (hx : In1 x) (hy : In1 y) (w : World) :
    Calls Try.prog 67 #[Sg a b c d, Sp x y] w (VP (.int .i64 (turnZ a b c d x y)) w) := by
  have M1 := minusS_det c d a b hc hd ha hb
  have M2 := minusS_det x y a b hx hy ha hb
  have CR := cross_det (c - a) (d - b) (x - a) (y - b) ⟨by omega, by omega⟩ ⟨by omega, by omega⟩ ⟨by omega, by omega⟩ ⟨by omega, by omega⟩
  have T0 : ArgsB w ((w.alloc (.cells #[.int .i64 a, .int .i64 b, .int .i64 c, .int .i64 d] 50)).alloc (.cells #[.int .i64 x, .int .i64 y] 38)) [[.int .i64 a, .int .i64 b, .int .i64 c, .int .i64 d], [.int .i64 x, .int .i64 y]] := ar2 _ _ _ _ w
  have tok1 : True := trivial
  clear ha hb hc hd hx hy
  go_enter Try.func67, Try.ntmps67
  go_upto_region 1 with fail
  generalize ((w.alloc (.cells #[.int .i64 a, .int .i64 b, .int .i64 c, .int .i64 d] 50)).alloc (.cells #[.int .i64 x, .int .i64 y] 38)) = W at *
  go_region_held3 (fun w' => w'.cell? ⟨w.heap.size, 0, none⟩ = some (.int .i64 a) ∧ w'.cell? ⟨w.heap.size, 1, none⟩ = some (.int .i64 b) ∧ w'.cell? ⟨w.heap.size, 2, none⟩ = some (.int .i64 c) ∧ w'.cell? ⟨w.heap.size, 3, none⟩ = some (.int .i64 d) ∧ w'.cell? ⟨w.heap.size + 1, 0, none⟩ = some (.int .i64 x) ∧ w'.cell? ⟨w.heap.size + 1, 1, none⟩ = some (.int .i64 y)) ((refine turnZ_cells ?_ <;> repeat (first | (with_reducible exact T0) | (with_reducible refine ArgsB.drew ?_))))
    (first
      | (go_at_call 75; have _t := tok1; refine (M1 _).mono ?_; rintro e w1 ⟨rfl, hB⟩; (first | (have T1 := T0.step hB) | (have T1 := T0.drew.step hB)); clear T0; have T0 := T1; clear T1; clear hB; clear tok1 _t)
      | (go_at_call 75; refine (M2 _).mono ?_; rintro e w2 ⟨rfl, hB⟩; (first | (have T1 := T0.step hB) | (have T1 := T0.drew.step hB)); clear T0; have T0 := T1; clear T1; clear hB)
      | (go_at_call 44; refine (CR _).mono ?_; rintro e w3 ⟨rfl, hB⟩; (first | (have T1 := T0.step hB) | (have T1 := T0.drew.step hB)); clear T0; have T0 := T1; clear T1; clear hB))
  all_goals go_wp2
  all_goals go_ret
  all_goals first | exact ⟨rfl, T0.below⟩ | exact ⟨rfl, T0.drew.below⟩
set_option maxRecDepth 100000 in
set_option maxHeartbeats 1000000 in
theorem lineOf_det (a b c d : Int) (ha : In1 a) (hb : In1 b) (hc : In1 c) (hd : In1 d) (w : World) : Calls Try.prog 53 #[Sg a b c d] w (VP (.agg #[.int .i64 (b - d), .int .i64 (c - a), .int .i64 (a * d - b * c)]) w) := by
  obtain ⟨p1, p2⟩ := mul_in (p := a) (q := d) (M := 1000000) (N := 1000000) ha.1 ha.2 hd.1 hd.2
  obtain ⟨q1, q2⟩ := mul_in (p := b) (q := c) (M := 1000000) (N := 1000000) hb.1 hb.2 hc.1 hc.2
  obtain ⟨a1, a2⟩ := ha; obtain ⟨b1, b2⟩ := hb; obtain ⟨c1, c2⟩ := hc; obtain ⟨d1, d2⟩ := hd
  go_enter Try.func53, Try.ntmps53
  go_wp2
  refine bodyPost_ret (v := .agg #[.int .i64 (b - d), .int .i64 (c - a), .int .i64 (a * d - b * c)]) (by simp [results, Try.results53, go_sem]) rfl ?_
  exact ⟨rfl, ((Below.refl _ _).alloc (Nat.le_refl _) _).alloc (by simp) _⟩
theorem cross_cells {l1 l2 l3 m1 m2 m3 : Int} {w W : World} (h : ArgsB w W [[.int .i64 l1, .int .i64 l2, .int .i64 l3], [.int .i64 m1, .int .i64 m2, .int .i64 m3]]) : (fun w' => w'.cell? ⟨w.heap.size, 0, none⟩ = some (.int .i64 l1) ∧ w'.cell? ⟨w.heap.size, 1, none⟩ = some (.int .i64 l2) ∧ w'.cell? ⟨w.heap.size, 2, none⟩ = some (.int .i64 l3) ∧ w'.cell? ⟨w.heap.size + 1, 0, none⟩ = some (.int .i64 m1) ∧ w'.cell? ⟨w.heap.size + 1, 1, none⟩ = some (.int .i64 m2) ∧ w'.cell? ⟨w.heap.size + 1, 2, none⟩ = some (.int .i64 m3)) W :=
  ⟨(h.b 0 rfl).c 0 rfl, (h.b 0 rfl).c 1 rfl, (h.b 0 rfl).c 2 rfl, (h.b 1 rfl).c 0 rfl, (h.b 1 rfl).c 1 rfl, (h.b 1 rfl).c 2 rfl⟩
theorem wrapI {z : Int} (h0 : -9223372036854775808 ≤ z) (h1 : z ≤ 9223372036854775807) : IntKind.i64.wrap z = z := by
  rw [IntKind.wrap_i64]
  omega
abbrev In3 (x : Int) : Prop := -2000000000000 ≤ x ∧ x ≤ 2000000000000
set_option maxRecDepth 100000 in
set_option maxHeartbeats 2000000 in
theorem crossing_det (l1 l2 l3 m1 m2 m3 : Int) (h1 : In2 l1) (h2 : In2 l2) (h3 : In3 l3) (k1 : In2 m1) (k2 : In2 m2) (k3 : In3 m3) (w : World) : Calls Try.prog 54 #[.agg #[.int .i64 l1, .int .i64 l2, .int .i64 l3], .agg #[.int .i64 m1, .int .i64 m2, .int .i64 m3]] w (VP (.tuple #[.int .i64 (l2 * m3 - m2 * l3), .int .i64 (l3 * m1 - m3 * l1), .int .i64 (l1 * m2 - m1 * l2)]) w) := by
  obtain ⟨p1, p2⟩ := mul_in (p := l2) (q := m3) (M := 2000000) (N := 2000000000000) h2.1 h2.2 k3.1 k3.2
  obtain ⟨q1, q2⟩ := mul_in (p := m2) (q := l3) (M := 2000000) (N := 2000000000000) k2.1 k2.2 h3.1 h3.2
  obtain ⟨r1, r2⟩ := mul_in (p := l3) (q := m1) (M := 2000000000000) (N := 2000000) h3.1 h3.2 k1.1 k1.2
  obtain ⟨s1, s2⟩ := mul_in (p := m3) (q := l1) (M := 2000000000000) (N := 2000000) k3.1 k3.2 h1.1 h1.2
  obtain ⟨t1, t2⟩ := mul_in (p := l1) (q := m2) (M := 2000000) (N := 2000000) h1.1 h1.2 k2.1 k2.2
  obtain ⟨u1, u2⟩ := mul_in (p := m1) (q := l2) (M := 2000000) (N := 2000000) k1.1 k1.2 h2.1 h2.2
  have T0 : ArgsB w ((w.alloc (.cells #[.int .i64 l1, .int .i64 l2, .int .i64 l3] 93)).alloc (.cells #[.int .i64 m1, .int .i64 m2, .int .i64 m3] 93)) [[.int .i64 l1, .int .i64 l2, .int .i64 l3], [.int .i64 m1, .int .i64 m2, .int .i64 m3]] := ar2 _ _ _ _ w
  clear h1 h2 h3 k1 k2 k3
  have e1 : IntKind.i64.wrap (l2 * m3) = l2 * m3 := wrapI (by omega) (by omega)
  have e2 : IntKind.i64.wrap (m2 * l3) = m2 * l3 := wrapI (by omega) (by omega)
  have e3 : IntKind.i64.wrap (l3 * m1) = l3 * m1 := wrapI (by omega) (by omega)
  have e4 : IntKind.i64.wrap (m3 * l1) = m3 * l1 := wrapI (by omega) (by omega)
  have e5 : IntKind.i64.wrap (l1 * m2) = l1 * m2 := wrapI (by omega) (by omega)
  have e6 : IntKind.i64.wrap (m1 * l2) = m1 * l2 := wrapI (by omega) (by omega)
  have e7 : IntKind.i64.wrap (l2 * m3 - m2 * l3) = l2 * m3 - m2 * l3 := wrapI (by omega) (by omega)
  have e8 : IntKind.i64.wrap (l3 * m1 - m3 * l1) = l3 * m1 - m3 * l1 := wrapI (by omega) (by omega)
  have e9 : IntKind.i64.wrap (l1 * m2 - m1 * l2) = l1 * m2 - m1 * l2 := wrapI (by omega) (by omega)
  go_enter Try.func54, Try.ntmps54
  go_upto_region 1 with fail
  generalize ((w.alloc (.cells #[.int .i64 l1, .int .i64 l2, .int .i64 l3] 93)).alloc (.cells #[.int .i64 m1, .int .i64 m2, .int .i64 m3] 93)) = W at *
  go_region_held3 (fun w' => w'.cell? ⟨w.heap.size, 0, none⟩ = some (.int .i64 l1) ∧ w'.cell? ⟨w.heap.size, 1, none⟩ = some (.int .i64 l2) ∧ w'.cell? ⟨w.heap.size, 2, none⟩ = some (.int .i64 l3) ∧ w'.cell? ⟨w.heap.size + 1, 0, none⟩ = some (.int .i64 m1) ∧ w'.cell? ⟨w.heap.size + 1, 1, none⟩ = some (.int .i64 m2) ∧ w'.cell? ⟨w.heap.size + 1, 2, none⟩ = some (.int .i64 m3)) ((refine cross_cells ?_ <;> repeat (first | (with_reducible exact T0) | (with_reducible refine ArgsB.drew ?_))))
    (first | fail)
  all_goals go_wp2
  all_goals refine bodyPost_ret (v := .tuple #[.int .i64 (l2 * m3 - m2 * l3), .int .i64 (l3 * m1 - m3 * l1), .int .i64 (l1 * m2 - m1 * l2)]) (by simp [results, Try.results54, go_sem]) rfl ?_
  all_goals first | exact ⟨rfl, T0.below⟩ | exact ⟨rfl, T0.drew.below⟩
/-- Whether of two turns one is not below 0, and one not above. -/
def pt2 (t t' : Int) : Bool := (decide (0 ≤ t) || decide (0 ≤ t')) && (decide (t ≤ 0) || decide (t' ≤ 0))
structure PartZ (w wr : World) (g : Nat) (sg sl : List Value) : Prop where
  below : Below w.heap.size w wr
  seg : Blk wr w.heap.size sg
  row : Blk wr g sl
theorem PartZ.step {w wr wr' : World} {g : Nat} {sg sl : List Value} (h : PartZ w wr g sg sl) (hB : Below wr.heap.size wr wr') : PartZ w wr' g sg sl := ⟨h.below.trans (hB.mono h.below.size), h.seg.step hB, h.row.step hB⟩
theorem PartZ.alloc {w wr : World} {g : Nat} {sg sl : List Value} (h : PartZ w wr g sg sl) (o : Obj) : PartZ w (wr.alloc o) g sg sl := h.step ((Below.refl _ _).alloc (Nat.le_refl _) o)
set_option maxRecDepth 100000 in
set_option maxHeartbeats 2000000 in
theorem parts2_det (a b c d x y u v : Int) (ha : In1 a) (hb : In1 b) (hc : In1 c) (hd : In1 d) (hx : In1 x) (hy : In1 y) (hu : In1 u) (hv : In1 v) (g : Nat) (w : World) (hS : Blk w g [.int .i64 x, .int .i64 y, .int .i64 u, .int .i64 v]) :
    Calls Try.prog 56 #[Sg a b c d, .slice (some ⟨g, 0, none⟩) 2 2] w (VP (.bool (pt2 (turnZ a b c d x y) (turnZ a b c d u v))) w) := by
  have T1 := turnToZ_det a b c d x y ha hb hc hd hx hy
  have T2 := turnToZ_det a b c d u v ha hb hc hd hu hv
  generalize turnZ a b c d x y = t at *
  generalize turnZ a b c d u v = t' at *
  clear ha hb hc hd hx hy hu hv
  have I0 : PartZ w (w.alloc (.cells #[.int .i64 a, .int .i64 b, .int .i64 c, .int .i64 d] 50)) g [.int .i64 a, .int .i64 b, .int .i64 c, .int .i64 d] [.int .i64 x, .int .i64 y, .int .i64 u, .int .i64 v] :=
    ⟨(Below.refl _ _).alloc (Nat.le_refl _) _, Blk.new w [.int .i64 a, .int .i64 b, .int .i64 c, .int .i64 d] 50 rfl, hS.alloc _⟩
  clear hS
  go_enter Try.func56, Try.ntmps56
  go_wp2
  generalize (w.alloc (.cells #[.int .i64 a, .int .i64 b, .int .i64 c, .int .i64 d] 50)) = W at *
  go_loopw [5, 6, 12] (fun l r i wr => ∃ k : Nat, k ≤ 2 ∧ i = .int .i64 k ∧ l = .bool (if k = 0 then false else if k = 1 then decide (0 ≤ t) else decide (0 ≤ t) || decide (0 ≤ t')) ∧ r = .bool (if k = 0 then false else if k = 1 then decide (t ≤ 0) else decide (t ≤ 0) || decide (t' ≤ 0)) ∧ PartZ w wr g [.int .i64 a, .int .i64 b, .int .i64 c, .int .i64 d] [.int .i64 x, .int .i64 y, .int .i64 u, .int .i64 v]) (fun _ _ i _ => 2 - (intOf i).toNat)
  case atStart => exact ⟨0, by omega, rfl, rfl, rfl, I0⟩
  case round =>
    clear I0
    obtain ⟨k, hk, rfl, rfl, rfl, I0⟩ := hrel
    have ca0 := I0.seg.c 0 rfl; have ca1 := I0.seg.c 1 rfl; have ca2 := I0.seg.c 2 rfl; have ca3 := I0.seg.c 3 rfl; have calt := I0.seg.lt
    rcases (by omega : k = 0 ∨ k = 1 ∨ k = 2) with rfl | rfl | rfl
    · have e1 := I0.row.c 0 rfl; have e2 := I0.row.c 1 rfl
      have r1 : ∀ b c : Bool, (if (0 : Nat) = 0 then false else if (0 : Nat) = 1 then b else c) = false := fun _ _ => rfl
      rw [r1, r1]
      clear r1
      go_wp2_with fail
      refine (T1 _).mono ?_
      rintro e w1 ⟨rfl, hB⟩
      replace I0 := (I0.alloc _).step hB
      clear ca0 ca1 ca2 ca3 calt e1 e2 hB T1 T2
      go_wp2
      all_goals go_roundw
      all_goals first | exact ⟨1, by omega, rfl, rfl, rfl, I0⟩ | simp [intOf]
    · have e1 := I0.row.c 2 rfl; have e2 := I0.row.c 3 rfl
      have r1 : ∀ b c : Bool, (if (1 : Nat) = 0 then false else if (1 : Nat) = 1 then b else c) = b := fun _ _ => rfl
      rw [r1, r1]
      clear r1
      obtain ⟨L, hL⟩ : ∃ L, decide (0 ≤ t) = L := ⟨_, rfl⟩
      obtain ⟨R, hR⟩ : ∃ R, decide (t ≤ 0) = R := ⟨_, rfl⟩
      rw [hL, hR]
      clear hL hR
      go_wp2_with fail
      refine (T2 _).mono ?_
      rintro e w1 ⟨rfl, hB⟩
      replace I0 := (I0.alloc _).step hB
      clear ca0 ca1 ca2 ca3 calt e1 e2 hB T1 T2
      cases L <;> cases R
      all_goals go_wp2
      all_goals go_roundw
      all_goals first | exact ⟨2, by omega, rfl, rfl, rfl, I0⟩ | simp [intOf]
    · have r1 : ∀ b c : Bool, (if (2 : Nat) = 0 then false else if (2 : Nat) = 1 then b else c) = c := fun _ _ => rfl
      rw [r1, r1]
      clear r1
      have HP : Hid (pt2 t t' = ((decide (0 ≤ t) || decide (0 ≤ t')) && (decide (t ≤ 0) || decide (t' ≤ 0)))) := rfl
      generalize (decide (0 ≤ t) || decide (0 ≤ t')) = L at *
      generalize (decide (t ≤ 0) || decide (t' ≤ 0)) = R at *
      clear ca0 ca1 ca2 ca3 calt T1 T2
      cases L <;> cases R
      all_goals go_wp2
      all_goals go_ret
      all_goals exact ⟨by rw [HP.out]; rfl, I0.below⟩
end Go.Proofs.Ytbhhegmlfclhbaa

/- Where two segments of one line meet: the program's walk. -/
namespace Go.Proofs.Ytbhhegmlfclhbaa
open Go.RowKit
/-- Two rows of twelve cells are stored ahead of the end. -/
theorem put24_ret {P : Program} {f : Func} {post : Ending → World → Prop} {ex : Exit} {act : Act} {w W : World} {g g' : Nat} {z0 z1 z2 z3 z4 z5 z6 z7 z8 z9 z10 z11 y0 y1 y2 y3 y4 y5 y6 y7 y8 y9 y10 y11 v0 v1 v2 v3 v4 v5 v6 v7 v8 v9 v10 v11 u0 u1 u2 u3 u4 u5 u6 u7 u8 u9 u10 u11 : Value} (BP : Blk W g [z0, z1, z2, z3, z4, z5, z6, z7, z8, z9, z10, z11]) (BQ : Blk W g' [y0, y1, y2, y3, y4, y5, y6, y7, y8, y9, y10, y11]) (hne : g ≠ g') (hg : w.heap.size ≤ g) (hg' : w.heap.size ≤ g') (HB : Below w.heap.size w W)
    (h : ∀ WF, Blk WF g [v0, v1, v2, v3, v4, v5, v6, v7, v8, v9, v10, v11] → Blk WF g' [u0, u1, u2, u3, u4, u5, u6, u7, u8, u9, u10, u11] → Below w.heap.size w WF → bodyPost P f post ex act WF) : bodyPost P f post ex act ((((((((((((((((((((((((W.setCell ⟨g, 0, none⟩ v0).setCell ⟨g, 1, none⟩ v1).setCell ⟨g, 2, none⟩ v2).setCell ⟨g, 3, none⟩ v3).setCell ⟨g, 4, none⟩ v4).setCell ⟨g, 5, none⟩ v5).setCell ⟨g, 6, none⟩ v6).setCell ⟨g, 7, none⟩ v7).setCell ⟨g, 8, none⟩ v8).setCell ⟨g, 9, none⟩ v9).setCell ⟨g, 10, none⟩ v10).setCell ⟨g, 11, none⟩ v11).setCell ⟨g', 0, none⟩ u0).setCell ⟨g', 1, none⟩ u1).setCell ⟨g', 2, none⟩ u2).setCell ⟨g', 3, none⟩ u3).setCell ⟨g', 4, none⟩ u4).setCell ⟨g', 5, none⟩ u5).setCell ⟨g', 6, none⟩ u6).setCell ⟨g', 7, none⟩ u7).setCell ⟨g', 8, none⟩ u8).setCell ⟨g', 9, none⟩ u9).setCell ⟨g', 10, none⟩ u10).setCell ⟨g', 11, none⟩ u11) :=
  h _ ((BP.stored12 v0 v1 v2 v3 v4 v5 v6 v7 v8 v9 v10 v11).set12 hne) ((BQ.set12 (Ne.symm hne)).stored12 u0 u1 u2 u3 u4 u5 u6 u7 u8 u9 u10 u11) (Below.set12 hg' (Below.set12 hg HB))
theorem eqSp (x y u v : Int) (w : World) : (Op.equalIn 10000 38 (Sp x y) (Sp u v)).run Try.prog w = .ok (decide (x = u) && decide (y = v)) w := by
  have u3 := Try.underlying2
  have a3 := Try.isAgg2
  have z3 := Try.sizeOf2
  rw [show (10000 : Nat) = 9999 + 1 from rfl, Op.equalIn]
  simp only [Sem.run_bind, run_underlying Try.underlying38, Result.andThen_ok]
  go_simp
  by_cases h1 : x = u
  · by_cases h2 : y = v
    · simp [h1, h2]
    · simp [h1, h2]
  · simp [h1]
theorem pointOfI (x y : Int) (hx : In1 x) (hy : In1 y) (w : World) : Calls Try.prog 68 #[Sp x y] w (VP (.agg #[.int .u64 (ww3 x), .int .u64 (ww2 x), .int .u64 (ww1 x), .int .u64 (ww0 x), .int .u64 (ww3 y), .int .u64 (ww2 y), .int .u64 (ww1 y), .int .u64 (ww0 y), .int .u64 (ww3 1), .int .u64 (ww2 1), .int .u64 (ww1 1), .int .u64 (ww0 1)]) w) := implPointOf_any x y (by omega) (by omega) (by omega) (by omega) w
/-- Where two right segments of one line meet. -/
def alongV (a b c d p q u v : Int) : Value :=
  if turnZ a b c d p q ≠ 0 ∨ lessI (if lessI u v c d = true then u else c) (if lessI u v c d = true then v else d) (if lessI a b p q = true then p else a) (if lessI a b p q = true then q else b) = true then .tuple #[.int .i64 0, .agg #[.int .u64 0, .int .u64 0, .int .u64 0, .int .u64 0, .int .u64 0, .int .u64 0, .int .u64 0, .int .u64 0, .int .u64 0, .int .u64 0, .int .u64 0, .int .u64 0], .agg #[.int .u64 0, .int .u64 0, .int .u64 0, .int .u64 0, .int .u64 0, .int .u64 0, .int .u64 0, .int .u64 0, .int .u64 0, .int .u64 0, .int .u64 0, .int .u64 0]]
  else if (if lessI a b p q = true then p else a) = (if lessI u v c d = true then u else c) ∧ (if lessI a b p q = true then q else b) = (if lessI u v c d = true then v else d) then .tuple #[.int .i64 1, .agg #[.int .u64 (ww3 (if lessI a b p q = true then p else a)), .int .u64 (ww2 (if lessI a b p q = true then p else a)), .int .u64 (ww1 (if lessI a b p q = true then p else a)), .int .u64 (ww0 (if lessI a b p q = true then p else a)), .int .u64 (ww3 (if lessI a b p q = true then q else b)), .int .u64 (ww2 (if lessI a b p q = true then q else b)), .int .u64 (ww1 (if lessI a b p q = true then q else b)), .int .u64 (ww0 (if lessI a b p q = true then q else b)), .int .u64 (ww3 1), .int .u64 (ww2 1), .int .u64 (ww1 1), .int .u64 (ww0 1)], .agg #[.int .u64 0, .int .u64 0, .int .u64 0, .int .u64 0, .int .u64 0, .int .u64 0, .int .u64 0, .int .u64 0, .int .u64 0, .int .u64 0, .int .u64 0, .int .u64 0]]
  else .tuple #[.int .i64 2, .agg #[.int .u64 (ww3 (if lessI a b p q = true then p else a)), .int .u64 (ww2 (if lessI a b p q = true then p else a)), .int .u64 (ww1 (if lessI a b p q = true then p else a)), .int .u64 (ww0 (if lessI a b p q = true then p else a)), .int .u64 (ww3 (if lessI a b p q = true then q else b)), .int .u64 (ww2 (if lessI a b p q = true then q else b)), .int .u64 (ww1 (if lessI a b p q = true then q else b)), .int .u64 (ww0 (if lessI a b p q = true then q else b)), .int .u64 (ww3 1), .int .u64 (ww2 1), .int .u64 (ww1 1), .int .u64 (ww0 1)], .agg #[.int .u64 (ww3 (if lessI u v c d = true then u else c)), .int .u64 (ww2 (if lessI u v c d = true then u else c)), .int .u64 (ww1 (if lessI u v c d = true then u else c)), .int .u64 (ww0 (if lessI u v c d = true then u else c)), .int .u64 (ww3 (if lessI u v c d = true then v else d)), .int .u64 (ww2 (if lessI u v c d = true then v else d)), .int .u64 (ww1 (if lessI u v c d = true then v else d)), .int .u64 (ww0 (if lessI u v c d = true then v else d)), .int .u64 (ww3 1), .int .u64 (ww2 1), .int .u64 (ww1 1), .int .u64 (ww0 1)]]
/-- How the four arguments and the two ends lie. -/
def AlS (w W : World) (gF gL : Nat) (a b c d p q u v fx fy lx ly : Int) : Prop := Blk W w.heap.size [.int .i64 a, .int .i64 b, .int .i64 c, .int .i64 d] ∧ Blk W (w.heap.size + 1) [.int .i64 p, .int .i64 q, .int .i64 u, .int .i64 v] ∧ Blk W (w.heap.size + 1 + 1) [.int .u64 0, .int .u64 0, .int .u64 0, .int .u64 0, .int .u64 0, .int .u64 0, .int .u64 0, .int .u64 0, .int .u64 0, .int .u64 0, .int .u64 0, .int .u64 0] ∧ Blk W (w.heap.size + 1 + 1 + 1) [.int .u64 0, .int .u64 0, .int .u64 0, .int .u64 0, .int .u64 0, .int .u64 0, .int .u64 0, .int .u64 0, .int .u64 0, .int .u64 0, .int .u64 0, .int .u64 0] ∧ Blk W gF [.int .i64 fx, .int .i64 fy] ∧ Blk W gL [.int .i64 lx, .int .i64 ly] ∧ Below w.heap.size w W
theorem CutG.drew {w wx : World} {vss : List (List Value)} {us vs : List Value} {p q : Value} (h : CutG w wx vss us vs p q) : CutG w wx.drew vss us vs p q := by
  obtain ⟨g, g', h1, h2, h3, h4, h5, T, G, G'⟩ := h
  exact ⟨g, g', h1, h2, h3, h4, h5, T.drew, G.drew, G'.drew⟩
theorem al_cells {x y u v : Int} {W : World} {gF gL : Nat} (BF : Blk W gF [.int .i64 x, .int .i64 y]) (BL : Blk W gL [.int .i64 u, .int .i64 v]) : (fun w' => w'.cell? ⟨gF, 0, none⟩ = some (.int .i64 x) ∧ w'.cell? ⟨gF, 1, none⟩ = some (.int .i64 y) ∧ w'.cell? ⟨gL, 0, none⟩ = some (.int .i64 u) ∧ w'.cell? ⟨gL, 1, none⟩ = some (.int .i64 v)) W := ⟨BF.c 0 rfl, BF.c 1 rfl, BL.c 0 rfl, BL.c 1 rfl⟩
theorem ml_cells {a b c d p q u v : Int} {w W : World} (T0 : ArgsB w W [[.int .i64 a, .int .i64 b, .int .i64 c, .int .i64 d], [.int .i64 p, .int .i64 q, .int .i64 u, .int .i64 v], [.int .u64 0, .int .u64 0, .int .u64 0, .int .u64 0, .int .u64 0, .int .u64 0, .int .u64 0, .int .u64 0, .int .u64 0, .int .u64 0, .int .u64 0, .int .u64 0], [.int .u64 0, .int .u64 0, .int .u64 0, .int .u64 0, .int .u64 0, .int .u64 0, .int .u64 0, .int .u64 0, .int .u64 0, .int .u64 0, .int .u64 0, .int .u64 0]]) : (fun w' => w'.cell? ⟨w.heap.size, 0, none⟩ = some (.int .i64 a) ∧ w'.cell? ⟨w.heap.size, 1, none⟩ = some (.int .i64 b) ∧ w'.cell? ⟨w.heap.size, 2, none⟩ = some (.int .i64 c) ∧ w'.cell? ⟨w.heap.size, 3, none⟩ = some (.int .i64 d) ∧ w'.cell? ⟨w.heap.size + 1, 0, none⟩ = some (.int .i64 p) ∧ w'.cell? ⟨w.heap.size + 1, 1, none⟩ = some (.int .i64 q) ∧ w'.cell? ⟨w.heap.size + 1, 2, none⟩ = some (.int .i64 u) ∧ w'.cell? ⟨w.heap.size + 1, 3, none⟩ = some (.int .i64 v)) W := ⟨(T0.b 0 rfl).c 0 rfl, (T0.b 0 rfl).c 1 rfl, (T0.b 0 rfl).c 2 rfl, (T0.b 0 rfl).c 3 rfl, (T0.b 1 rfl).c 0 rfl, (T0.b 1 rfl).c 1 rfl, (T0.b 1 rfl).c 2 rfl, (T0.b 1 rfl).c 3 rfl⟩
set_option maxRecDepth 100000 in
set_option maxHeartbeats 8000000 in
theorem meetAlong_det (a b c d p q u v : Int) (ha : In1 a) (hb : In1 b) (hc : In1 c) (hd : In1 d) (hp : In1 p) (hq : In1 q) (hu : In1 u) (hv : In1 v) (w : World) : Calls Try.prog 55 #[Sg a b c d, Sg p q u v] w (VP (alongV a b c d p q u v) w) := by
  have TT := turnToZ_det a b c d p q ha hb hc hd hp hq
  have T0 : ArgsB w ((((w.alloc (.cells #[.int .i64 a, .int .i64 b, .int .i64 c, .int .i64 d] 50)).alloc (.cells #[.int .i64 p, .int .i64 q, .int .i64 u, .int .i64 v] 50)).alloc (.cells #[.int .u64 0, .int .u64 0, .int .u64 0, .int .u64 0, .int .u64 0, .int .u64 0, .int .u64 0, .int .u64 0, .int .u64 0, .int .u64 0, .int .u64 0, .int .u64 0] 67)).alloc (.cells #[.int .u64 0, .int .u64 0, .int .u64 0, .int .u64 0, .int .u64 0, .int .u64 0, .int .u64 0, .int .u64 0, .int .u64 0, .int .u64 0, .int .u64 0, .int .u64 0] 67)) [[.int .i64 a, .int .i64 b, .int .i64 c, .int .i64 d], [.int .i64 p, .int .i64 q, .int .i64 u, .int .i64 v], [.int .u64 0, .int .u64 0, .int .u64 0, .int .u64 0, .int .u64 0, .int .u64 0, .int .u64 0, .int .u64 0, .int .u64 0, .int .u64 0, .int .u64 0, .int .u64 0], [.int .u64 0, .int .u64 0, .int .u64 0, .int .u64 0, .int .u64 0, .int .u64 0, .int .u64 0, .int .u64 0, .int .u64 0, .int .u64 0, .int .u64 0, .int .u64 0]] := ar4 _ _ _ _ _ _ _ _ w
  go_enter Try.func55, Try.ntmps55
  go_upto_region 1 with fail
  generalize ((((w.alloc (.cells #[.int .i64 a, .int .i64 b, .int .i64 c, .int .i64 d] 50)).alloc (.cells #[.int .i64 p, .int .i64 q, .int .i64 u, .int .i64 v] 50)).alloc (.cells #[.int .u64 0, .int .u64 0, .int .u64 0, .int .u64 0, .int .u64 0, .int .u64 0, .int .u64 0, .int .u64 0, .int .u64 0, .int .u64 0, .int .u64 0, .int .u64 0] 67)).alloc (.cells #[.int .u64 0, .int .u64 0, .int .u64 0, .int .u64 0, .int .u64 0, .int .u64 0, .int .u64 0, .int .u64 0, .int .u64 0, .int .u64 0, .int .u64 0, .int .u64 0] 67)) = W at *
  have hl0 : w.heap.size + ([[.int .i64 a, .int .i64 b, .int .i64 c, .int .i64 d], [.int .i64 p, .int .i64 q, .int .i64 u, .int .i64 v], [.int .u64 0, .int .u64 0, .int .u64 0, .int .u64 0, .int .u64 0, .int .u64 0, .int .u64 0, .int .u64 0, .int .u64 0, .int .u64 0, .int .u64 0, .int .u64 0], [.int .u64 0, .int .u64 0, .int .u64 0, .int .u64 0, .int .u64 0, .int .u64 0, .int .u64 0, .int .u64 0, .int .u64 0, .int .u64 0, .int .u64 0, .int .u64 0]] : List (List Value)).length ≤ W.heap.size := (T0.b 3 rfl).lt
  have hl1 : w.heap.size + ([[.int .i64 a, .int .i64 b, .int .i64 c, .int .i64 d], [.int .i64 p, .int .i64 q, .int .i64 u, .int .i64 v], [.int .u64 0, .int .u64 0, .int .u64 0, .int .u64 0, .int .u64 0, .int .u64 0, .int .u64 0, .int .u64 0, .int .u64 0, .int .u64 0, .int .u64 0, .int .u64 0], [.int .u64 0, .int .u64 0, .int .u64 0, .int .u64 0, .int .u64 0, .int .u64 0, .int .u64 0, .int .u64 0, .int .u64 0, .int .u64 0, .int .u64 0, .int .u64 0]] : List (List Value)).length ≤ W.drew.heap.size := hl0
  go_cut [7, 8] (fun p' q' wx => CutG w wx [[.int .i64 a, .int .i64 b, .int .i64 c, .int .i64 d], [.int .i64 p, .int .i64 q, .int .i64 u, .int .i64 v], [.int .u64 0, .int .u64 0, .int .u64 0, .int .u64 0, .int .u64 0, .int .u64 0, .int .u64 0, .int .u64 0, .int .u64 0, .int .u64 0, .int .u64 0, .int .u64 0], [.int .u64 0, .int .u64 0, .int .u64 0, .int .u64 0, .int .u64 0, .int .u64 0, .int .u64 0, .int .u64 0, .int .u64 0, .int .u64 0, .int .u64 0, .int .u64 0]] [.int .i64 a, .int .i64 b] [.int .i64 c, .int .i64 d] p' q')
  case first =>
    go_region_held3 (fun w' => w'.cell? ⟨w.heap.size, 0, none⟩ = some (.int .i64 a) ∧ w'.cell? ⟨w.heap.size, 1, none⟩ = some (.int .i64 b) ∧ w'.cell? ⟨w.heap.size, 2, none⟩ = some (.int .i64 c) ∧ w'.cell? ⟨w.heap.size, 3, none⟩ = some (.int .i64 d) ∧ w'.cell? ⟨w.heap.size + 1, 0, none⟩ = some (.int .i64 p) ∧ w'.cell? ⟨w.heap.size + 1, 1, none⟩ = some (.int .i64 q) ∧ w'.cell? ⟨w.heap.size + 1, 2, none⟩ = some (.int .i64 u) ∧ w'.cell? ⟨w.heap.size + 1, 3, none⟩ = some (.int .i64 v)) ((refine ml_cells ?_ <;> repeat (first | (with_reducible exact T0) | (with_reducible refine ArgsB.drew ?_) | (with_reducible refine ArgsB.alloc ?_ _) | (with_reducible refine ArgsB.set2 ?_ (by simp; omega) _ _))))
      (first | fail)
    all_goals go_wp2_with fail
    all_goals go_meet
    all_goals first | (with_reducible exact cutG_nn T0 hl0) | (with_reducible exact cutG_nn' T0 hl0) | (with_reducible exact (cutG_nn T0 hl0).drew) | (with_reducible exact (cutG_nn' T0 hl0).drew) | (with_reducible exact cutG_nn T0.drew hl1) | (with_reducible exact cutG_nn' T0.drew hl1)
  case rest =>
    clear T0 hl0 hl1
    obtain ⟨gF, gL, hp', hq', hne, hgF, hgL, T0, BF, BL⟩ := hcut
    subst hp'; subst hq'
    simp only [List.length_cons, List.length_nil] at hgF hgL
    have BS : Blk _ w.heap.size _ := T0.b 0 rfl; have BT : Blk _ (w.heap.size + 1) _ := T0.b 1 rfl; have BP : Blk _ (w.heap.size + 1 + 1) _ := T0.b 2 rfl; have BQ : Blk _ (w.heap.size + 1 + 1 + 1) _ := T0.b 3 rfl; have HB := T0.below
    clear T0
    obtain ⟨fx, hfx⟩ : ∃ t, (if lessI a b p q = true then p else a) = t := ⟨_, rfl⟩
    obtain ⟨fy, hfy⟩ : ∃ t, (if lessI a b p q = true then q else b) = t := ⟨_, rfl⟩
    obtain ⟨lx, hlx⟩ : ∃ t, (if lessI u v c d = true then u else c) = t := ⟨_, rfl⟩
    obtain ⟨ly, hly⟩ : ∃ t, (if lessI u v c d = true then v else d) = t := ⟨_, rfl⟩
    have ifx : In1 fx := by rw [← hfx]; split <;> assumption
    have ify : In1 fy := by rw [← hfy]; split <;> assumption
    have ilx : In1 lx := by rw [← hlx]; split <;> assumption
    have ily : In1 ly := by rw [← hly]; split <;> assumption
    have HFX : Hid ((if lessI a b p q = true then p else a) = fx) := hfx
    have HFY : Hid ((if lessI a b p q = true then q else b) = fy) := hfy
    have HLX : Hid ((if lessI u v c d = true then u else c) = lx) := hlx
    have HLY : Hid ((if lessI u v c d = true then v else d) = ly) := hly
    clear hfx hfy hlx hly
    go_upto_region 2 with fail
    go_cut [16] (fun z' wx => z' = .bool (lessI a b p q) ∧ AlS w wx gF gL a b c d p q u v a b c d)
    case first =>
      obtain ⟨sc0, sc1, sc2, sc3⟩ := BS.cs4; have sl := BS.lt; obtain ⟨tc0, tc1, tc2, tc3⟩ := BT.cs4; have tl := BT.lt; obtain ⟨fc0, ff0, fc1, ff1⟩ := BF.cf2; have fl := BF.lt; obtain ⟨lc0, lf0, lc1, lf1⟩ := BL.cf2; have ll := BL.lt
      go_wp2_with fail
      refine (isAhead_any a b p q _ rfl _).mono ?_
      rintro e w11 ⟨rfl, hB⟩
      go_wp2_with fail
      go_meet
      exact ⟨rfl, BS.step hB, BT.step hB, BP.step hB, BQ.step hB, BF.step hB, BL.step hB, HB.trans (hB.mono HB.size)⟩
    case rest =>
      clear BS BT BP BQ BF BL HB
      obtain ⟨hq', BS, BT, BP, BQ, BF, BL, HB⟩ := hcut
      subst hq'
      generalize wc = w11c at *
      rename_i hk
      refine hk _ _ ?_
      go_cut [] (fun wx => AlS w wx gF gL a b c d p q u v fx fy c d)
      case first =>
        by_cases h1 : lessI a b p q = true
        · rw [h1]
          have e1 : fx = p := by rw [← HFX.out, if_pos h1]
          have e2 : fy = q := by rw [← HFY.out, if_pos h1]
          clear h1
          obtain ⟨sc0, sc1, sc2, sc3⟩ := BS.cs4; have sl := BS.lt; obtain ⟨tc0, tc1, tc2, tc3⟩ := BT.cs4; have tl := BT.lt; obtain ⟨fc0, ff0, fc1, ff1⟩ := BF.cf2; have fl := BF.lt; obtain ⟨lc0, lf0, lc1, lf1⟩ := BL.cf2; have ll := BL.lt
          go_wp2_with fail
          go_meet
          rw [e1, e2]
          exact ⟨BS.set2 (by omega), BT.set2 (by omega), BP.set2 (by omega), BQ.set2 (by omega), BF.stored2 _ _, BL.set2 (by omega), Below.setCell (Below.setCell HB (by show _ ≤ gF; omega) _) (by show _ ≤ gF; omega) _⟩
        · have h1' := Bool.eq_false_iff.2 h1
          have e1 : fx = a := by rw [← HFX.out, if_neg h1]
          have e2 : fy = b := by rw [← HFY.out, if_neg h1]
          rw [h1']
          clear h1 h1'
          go_wp2_with fail
          go_meet
          rw [e1, e2]
          exact ⟨BS, BT, BP, BQ, BF, BL, HB⟩
      case rest =>
        clear BS BT BP BQ BF BL HB
        obtain ⟨BS, BT, BP, BQ, BF, BL, HB⟩ := hcut
        generalize wc = w11d at *
        go_upto_region 4 with fail
        go_cut [22] (fun z' wx => z' = .bool (lessI u v c d) ∧ AlS w wx gF gL a b c d p q u v fx fy c d)
        case first =>
          obtain ⟨sc0, sc1, sc2, sc3⟩ := BS.cs4; have sl := BS.lt; obtain ⟨tc0, tc1, tc2, tc3⟩ := BT.cs4; have tl := BT.lt; obtain ⟨fc0, ff0, fc1, ff1⟩ := BF.cf2; have fl := BF.lt; obtain ⟨lc0, lf0, lc1, lf1⟩ := BL.cf2; have ll := BL.lt
          go_wp2_with fail
          refine (isAhead_any u v c d _ rfl _).mono ?_
          rintro e w12 ⟨rfl, hB⟩
          go_wp2_with fail
          go_meet
          exact ⟨rfl, BS.step hB, BT.step hB, BP.step hB, BQ.step hB, BF.step hB, BL.step hB, HB.trans (hB.mono HB.size)⟩
        case rest =>
          clear BS BT BP BQ BF BL HB
          obtain ⟨hq', BS, BT, BP, BQ, BF, BL, HB⟩ := hcut
          subst hq'
          generalize wc = w12c at *
          rename_i hk
          refine hk _ _ ?_
          go_cut [] (fun wx => AlS w wx gF gL a b c d p q u v fx fy lx ly)
          case first =>
            by_cases h1 : lessI u v c d = true
            · rw [h1]
              have e1 : lx = u := by rw [← HLX.out, if_pos h1]
              have e2 : ly = v := by rw [← HLY.out, if_pos h1]
              clear h1
              obtain ⟨sc0, sc1, sc2, sc3⟩ := BS.cs4; have sl := BS.lt; obtain ⟨tc0, tc1, tc2, tc3⟩ := BT.cs4; have tl := BT.lt; obtain ⟨fc0, ff0, fc1, ff1⟩ := BF.cf2; have fl := BF.lt; obtain ⟨lc0, lf0, lc1, lf1⟩ := BL.cf2; have ll := BL.lt
              go_wp2_with fail
              go_meet
              rw [e1, e2]
              exact ⟨BS.set2 (by omega), BT.set2 (by omega), BP.set2 (by omega), BQ.set2 (by omega), BF.set2 (by omega), BL.stored2 _ _, Below.setCell (Below.setCell HB (by show _ ≤ gL; omega) _) (by show _ ≤ gL; omega) _⟩
            · have h1' := Bool.eq_false_iff.2 h1
              have e1 : lx = c := by rw [← HLX.out, if_neg h1]
              have e2 : ly = d := by rw [← HLY.out, if_neg h1]
              rw [h1']
              clear h1 h1'
              go_wp2_with fail
              go_meet
              rw [e1, e2]
              exact ⟨BS, BT, BP, BQ, BF, BL, HB⟩
          case rest =>
            clear BS BT BP BQ BF BL HB
            obtain ⟨BS, BT, BP, BQ, BF, BL, HB⟩ := hcut
            generalize wc = w12d at *
            obtain ⟨sc0, sc1, sc2, sc3⟩ := BS.cs4; have sl := BS.lt; obtain ⟨tc0, tc1, tc2, tc3⟩ := BT.cs4; have tl := BT.lt; obtain ⟨fc0, ff0, fc1, ff1⟩ := BF.cf2; have fl := BF.lt; obtain ⟨lc0, lf0, lc1, lf1⟩ := BL.cf2; have ll := BL.lt
            go_wp2_with fail
            refine (TT _).mono ?_
            rintro e w16 ⟨rfl, hB⟩
            replace BS := BS.step hB
            replace BT := BT.step hB
            replace BF := BF.step hB
            replace BL := BL.step hB
            replace BP := BP.step hB
            replace BQ := BQ.step hB
            replace HB := HB.trans (hB.mono HB.size)
            clear hB sc0 sc1 sc2 sc3 sl tc0 tc1 tc2 tc3 tl fc0 ff0 fc1 ff1 fl lc0 lf0 lc1 lf1 ll
            by_cases hT : turnZ a b c d p q = 0
            · have hT' : (turnZ a b c d p q == 0) = true := by simpa using hT
              have hT2 : (turnZ a b c d p q != 0) = false := by simp [hT]
              obtain ⟨sc0, sc1, sc2, sc3⟩ := BS.cs4; have sl := BS.lt; obtain ⟨tc0, tc1, tc2, tc3⟩ := BT.cs4; have tl := BT.lt; obtain ⟨fc0, ff0, fc1, ff1⟩ := BF.cf2; have fl := BF.lt; obtain ⟨lc0, lf0, lc1, lf1⟩ := BL.cf2; have ll := BL.lt
              go_wp2_with fail
              refine (isAhead_any lx ly fx fy _ rfl _).mono ?_
              rintro e w17 ⟨rfl, hB⟩
              replace BS := BS.step hB
              replace BT := BT.step hB
              replace BF := BF.step hB
              replace BL := BL.step hB
              replace BP := BP.step hB
              replace BQ := BQ.step hB
              replace HB := HB.trans (hB.mono HB.size)
              clear hB sc0 sc1 sc2 sc3 sl tc0 tc1 tc2 tc3 tl fc0 ff0 fc1 ff1 fl lc0 lf0 lc1 lf1 ll
              by_cases hA : lessI lx ly fx fy = true
              · rw [hA]
                have HO : Hid (alongV a b c d p q u v = .tuple #[.int .i64 0, .agg #[.int .u64 0, .int .u64 0, .int .u64 0, .int .u64 0, .int .u64 0, .int .u64 0, .int .u64 0, .int .u64 0, .int .u64 0, .int .u64 0, .int .u64 0, .int .u64 0], .agg #[.int .u64 0, .int .u64 0, .int .u64 0, .int .u64 0, .int .u64 0, .int .u64 0, .int .u64 0, .int .u64 0, .int .u64 0, .int .u64 0, .int .u64 0, .int .u64 0]]) := by show _ = _; unfold alongV; rw [HFX.out, HFY.out, HLX.out, HLY.out, if_pos (Or.inr hA)]
                clear hA hT hT' hT2 TT BS BT BF BL
                obtain ⟨xc0, xf0, xc1, xf1, xc2, xf2, xc3, xf3, xc4, xf4, xc5, xf5, xc6, xf6, xc7, xf7, xc8, xf8, xc9, xf9, xc10, xf10, xc11, xf11⟩ := BP.cf12; have xl := BP.lt; obtain ⟨yc0, yf0, yc1, yf1, yc2, yf2, yc3, yf3, yc4, yf4, yc5, yf5, yc6, yf6, yc7, yf7, yc8, yf8, yc9, yf9, yc10, yf10, yc11, yf11⟩ := BQ.cf12; have yl := BQ.lt
                go_wp2
                refine put24_ret BP BQ (by omega) (by omega) (by omega) HB fun WF F0 F1 HBF => ?_
                clear BP BQ HB xc0 xf0 xc1 xf1 xc2 xf2 xc3 xf3 xc4 xf4 xc5 xf5 xc6 xf6 xc7 xf7 xc8 xf8 xc9 xf9 xc10 xf10 xc11 xf11 xl yc0 yf0 yc1 yf1 yc2 yf2 yc3 yf3 yc4 yf4 yc5 yf5 yc6 yf6 yc7 yf7 yc8 yf8 yc9 yf9 yc10 yf10 yc11 yf11 yl
                have m0 := F0.c 0 rfl; have n0 := F1.c 0 rfl; have m1 := F0.c 1 rfl; have n1 := F1.c 1 rfl; have m2 := F0.c 2 rfl; have n2 := F1.c 2 rfl; have m3 := F0.c 3 rfl; have n3 := F1.c 3 rfl; have m4 := F0.c 4 rfl; have n4 := F1.c 4 rfl; have m5 := F0.c 5 rfl; have n5 := F1.c 5 rfl; have m6 := F0.c 6 rfl; have n6 := F1.c 6 rfl; have m7 := F0.c 7 rfl; have n7 := F1.c 7 rfl; have m8 := F0.c 8 rfl; have n8 := F1.c 8 rfl; have m9 := F0.c 9 rfl; have n9 := F1.c 9 rfl; have m10 := F0.c 10 rfl; have n10 := F1.c 10 rfl; have m11 := F0.c 11 rfl; have n11 := F1.c 11 rfl
                refine bodyPost_ret (v := .tuple #[.int .i64 0, .agg #[.int .u64 0, .int .u64 0, .int .u64 0, .int .u64 0, .int .u64 0, .int .u64 0, .int .u64 0, .int .u64 0, .int .u64 0, .int .u64 0, .int .u64 0, .int .u64 0], .agg #[.int .u64 0, .int .u64 0, .int .u64 0, .int .u64 0, .int .u64 0, .int .u64 0, .int .u64 0, .int .u64 0, .int .u64 0, .int .u64 0, .int .u64 0, .int .u64 0]]) (by simp [results, Try.results55, go_sem, m0, n0, m1, n1, m2, n2, m3, n3, m4, n4, m5, n5, m6, n6, m7, n7, m8, n8, m9, n9, m10, n10, m11, n11]) rfl ?_
                exact ⟨by rw [HO.out], by first | exact HBF | exact HBF.drew⟩
              · have hA' := Bool.eq_false_iff.2 hA
                rw [hA']
                have EQ := eqSp fx fy lx ly
                by_cases hE : fx = lx ∧ fy = ly
                · have HO : Hid (alongV a b c d p q u v = .tuple #[.int .i64 1, .agg #[.int .u64 (ww3 fx), .int .u64 (ww2 fx), .int .u64 (ww1 fx), .int .u64 (ww0 fx), .int .u64 (ww3 fy), .int .u64 (ww2 fy), .int .u64 (ww1 fy), .int .u64 (ww0 fy), .int .u64 (ww3 1), .int .u64 (ww2 1), .int .u64 (ww1 1), .int .u64 (ww0 1)], .agg #[.int .u64 0, .int .u64 0, .int .u64 0, .int .u64 0, .int .u64 0, .int .u64 0, .int .u64 0, .int .u64 0, .int .u64 0, .int .u64 0, .int .u64 0, .int .u64 0]]) := by show _ = _; unfold alongV; rw [HFX.out, HFY.out, HLX.out, HLY.out, if_neg (by rw [hA']; rintro (h | h); exact h hT; cases h), if_pos hE]
                  rw [show (decide (fx = lx) && decide (fy = ly)) = true by rw [hE.1, hE.2]; simp] at EQ
                  have PO := pointOfI fx fy (by omega) (by omega)
                  clear hA hA' hT hT' hT2 TT hE
                  obtain ⟨sc0, sc1, sc2, sc3⟩ := BS.cs4; have sl := BS.lt; obtain ⟨tc0, tc1, tc2, tc3⟩ := BT.cs4; have tl := BT.lt; obtain ⟨fc0, ff0, fc1, ff1⟩ := BF.cf2; have fl := BF.lt; obtain ⟨lc0, lf0, lc1, lf1⟩ := BL.cf2; have ll := BL.lt
                  go_wp2_with fail
                  refine (PO _).mono ?_
                  rintro e w18 ⟨rfl, hB⟩
                  replace BS := BS.step hB
                  replace BT := BT.step hB
                  replace BF := BF.step hB
                  replace BL := BL.step hB
                  replace BP := BP.step hB
                  replace BQ := BQ.step hB
                  replace HB := HB.trans (hB.mono HB.size)
                  clear hB sc0 sc1 sc2 sc3 sl tc0 tc1 tc2 tc3 tl fc0 ff0 fc1 ff1 fl lc0 lf0 lc1 lf1 ll
                  clear BS BT BF BL PO EQ
                  obtain ⟨xc0, xf0, xc1, xf1, xc2, xf2, xc3, xf3, xc4, xf4, xc5, xf5, xc6, xf6, xc7, xf7, xc8, xf8, xc9, xf9, xc10, xf10, xc11, xf11⟩ := BP.cf12; have xl := BP.lt; obtain ⟨yc0, yf0, yc1, yf1, yc2, yf2, yc3, yf3, yc4, yf4, yc5, yf5, yc6, yf6, yc7, yf7, yc8, yf8, yc9, yf9, yc10, yf10, yc11, yf11⟩ := BQ.cf12; have yl := BQ.lt
                  go_wp2
                  refine put24_ret BP BQ (by omega) (by omega) (by omega) HB fun WF F0 F1 HBF => ?_
                  clear BP BQ HB xc0 xf0 xc1 xf1 xc2 xf2 xc3 xf3 xc4 xf4 xc5 xf5 xc6 xf6 xc7 xf7 xc8 xf8 xc9 xf9 xc10 xf10 xc11 xf11 xl yc0 yf0 yc1 yf1 yc2 yf2 yc3 yf3 yc4 yf4 yc5 yf5 yc6 yf6 yc7 yf7 yc8 yf8 yc9 yf9 yc10 yf10 yc11 yf11 yl
                  have m0 := F0.c 0 rfl; have n0 := F1.c 0 rfl; have m1 := F0.c 1 rfl; have n1 := F1.c 1 rfl; have m2 := F0.c 2 rfl; have n2 := F1.c 2 rfl; have m3 := F0.c 3 rfl; have n3 := F1.c 3 rfl; have m4 := F0.c 4 rfl; have n4 := F1.c 4 rfl; have m5 := F0.c 5 rfl; have n5 := F1.c 5 rfl; have m6 := F0.c 6 rfl; have n6 := F1.c 6 rfl; have m7 := F0.c 7 rfl; have n7 := F1.c 7 rfl; have m8 := F0.c 8 rfl; have n8 := F1.c 8 rfl; have m9 := F0.c 9 rfl; have n9 := F1.c 9 rfl; have m10 := F0.c 10 rfl; have n10 := F1.c 10 rfl; have m11 := F0.c 11 rfl; have n11 := F1.c 11 rfl
                  refine bodyPost_ret (v := .tuple #[.int .i64 1, .agg #[.int .u64 (ww3 fx), .int .u64 (ww2 fx), .int .u64 (ww1 fx), .int .u64 (ww0 fx), .int .u64 (ww3 fy), .int .u64 (ww2 fy), .int .u64 (ww1 fy), .int .u64 (ww0 fy), .int .u64 (ww3 1), .int .u64 (ww2 1), .int .u64 (ww1 1), .int .u64 (ww0 1)], .agg #[.int .u64 0, .int .u64 0, .int .u64 0, .int .u64 0, .int .u64 0, .int .u64 0, .int .u64 0, .int .u64 0, .int .u64 0, .int .u64 0, .int .u64 0, .int .u64 0]]) (by simp [results, Try.results55, go_sem, m0, n0, m1, n1, m2, n2, m3, n3, m4, n4, m5, n5, m6, n6, m7, n7, m8, n8, m9, n9, m10, n10, m11, n11]) rfl ?_
                  exact ⟨by rw [HO.out], by first | exact HBF | exact HBF.drew⟩
                · have HO : Hid (alongV a b c d p q u v = .tuple #[.int .i64 2, .agg #[.int .u64 (ww3 fx), .int .u64 (ww2 fx), .int .u64 (ww1 fx), .int .u64 (ww0 fx), .int .u64 (ww3 fy), .int .u64 (ww2 fy), .int .u64 (ww1 fy), .int .u64 (ww0 fy), .int .u64 (ww3 1), .int .u64 (ww2 1), .int .u64 (ww1 1), .int .u64 (ww0 1)], .agg #[.int .u64 (ww3 lx), .int .u64 (ww2 lx), .int .u64 (ww1 lx), .int .u64 (ww0 lx), .int .u64 (ww3 ly), .int .u64 (ww2 ly), .int .u64 (ww1 ly), .int .u64 (ww0 ly), .int .u64 (ww3 1), .int .u64 (ww2 1), .int .u64 (ww1 1), .int .u64 (ww0 1)]]) := by show _ = _; unfold alongV; rw [HFX.out, HFY.out, HLX.out, HLY.out, if_neg (by rw [hA']; rintro (h | h); exact h hT; cases h), if_neg hE]
                  rw [show (decide (fx = lx) && decide (fy = ly)) = false by rw [← Bool.decide_and]; exact decide_eq_false hE] at EQ
                  have PO := pointOfI fx fy (by omega) (by omega)
                  have PL := pointOfI lx ly (by omega) (by omega)
                  clear hA hA' hT hT' hT2 TT hE
                  clear BS BT
                  have tok1 : True := trivial
                  obtain ⟨fc0, ff0, fc1, ff1⟩ := BF.cf2; have fl := BF.lt; obtain ⟨lc0, lf0, lc1, lf1⟩ := BL.cf2; have ll := BL.lt
                  go_upto_region 10 with fail
                  clear fc0 ff0 fc1 ff1 fl lc0 lf0 lc1 lf1 ll
                  go_region_held3 (fun w' => w'.cell? ⟨gF, 0, none⟩ = some (.int .i64 fx) ∧ w'.cell? ⟨gF, 1, none⟩ = some (.int .i64 fy) ∧ w'.cell? ⟨gL, 0, none⟩ = some (.int .i64 lx) ∧ w'.cell? ⟨gL, 1, none⟩ = some (.int .i64 ly)) ((refine al_cells ?_ ?_ <;> repeat (first | (with_reducible exact BF) | (with_reducible exact BL) | (with_reducible refine Blk.drew ?_) | (with_reducible refine Blk.set12 ?_ (by omega)))))
                    (first
                      | (go_at_call 68; have _t := tok1; refine (PO _).mono ?_; rintro e w19 ⟨rfl, hB⟩; (first | (replace BF := BF.step hB; replace BL := BL.step hB; replace BP := BP.step hB; replace BQ := BQ.step hB; replace HB := HB.trans (hB.mono HB.size)) | (replace BF := BF.drew.step hB; replace BL := BL.drew.step hB; replace BP := BP.drew.step hB; replace BQ := BQ.drew.step hB; replace HB := HB.drew.trans (hB.mono HB.drew.size))); clear hB; clear tok1 _t)
                      | (go_at_call 68; refine (PL _).mono ?_; rintro e w20 ⟨rfl, hB⟩; (first | (replace BF := BF.step hB; replace BL := BL.step hB; replace BP := BP.step hB; replace BQ := BQ.step hB; replace HB := HB.trans (hB.mono HB.size)) | (replace BF := BF.drew.step hB; replace BL := BL.drew.step hB; replace BP := BP.drew.step hB; replace BQ := BQ.drew.step hB; replace HB := HB.drew.trans (hB.mono HB.drew.size))); clear hB; obtain ⟨xc0, xf0, xc1, xf1, xc2, xf2, xc3, xf3, xc4, xf4, xc5, xf5, xc6, xf6, xc7, xf7, xc8, xf8, xc9, xf9, xc10, xf10, xc11, xf11⟩ := BP.cf12; have xl := BP.lt; obtain ⟨yc0, yf0, yc1, yf1, yc2, yf2, yc3, yf3, yc4, yf4, yc5, yf5, yc6, yf6, yc7, yf7, yc8, yf8, yc9, yf9, yc10, yf10, yc11, yf11⟩ := BQ.cf12; have yl := BQ.lt))
                  all_goals clear BF BL PO PL EQ
                  all_goals (
                    go_wp2
                    refine put24_ret BP BQ (by omega) (by omega) (by omega) HB fun WF F0 F1 HBF => ?_
                    clear BP BQ HB xc0 xf0 xc1 xf1 xc2 xf2 xc3 xf3 xc4 xf4 xc5 xf5 xc6 xf6 xc7 xf7 xc8 xf8 xc9 xf9 xc10 xf10 xc11 xf11 xl yc0 yf0 yc1 yf1 yc2 yf2 yc3 yf3 yc4 yf4 yc5 yf5 yc6 yf6 yc7 yf7 yc8 yf8 yc9 yf9 yc10 yf10 yc11 yf11 yl
                    have m0 := F0.c 0 rfl; have n0 := F1.c 0 rfl; have m1 := F0.c 1 rfl; have n1 := F1.c 1 rfl; have m2 := F0.c 2 rfl; have n2 := F1.c 2 rfl; have m3 := F0.c 3 rfl; have n3 := F1.c 3 rfl; have m4 := F0.c 4 rfl; have n4 := F1.c 4 rfl; have m5 := F0.c 5 rfl; have n5 := F1.c 5 rfl; have m6 := F0.c 6 rfl; have n6 := F1.c 6 rfl; have m7 := F0.c 7 rfl; have n7 := F1.c 7 rfl; have m8 := F0.c 8 rfl; have n8 := F1.c 8 rfl; have m9 := F0.c 9 rfl; have n9 := F1.c 9 rfl; have m10 := F0.c 10 rfl; have n10 := F1.c 10 rfl; have m11 := F0.c 11 rfl; have n11 := F1.c 11 rfl
                    refine bodyPost_ret (v := .tuple #[.int .i64 2, .agg #[.int .u64 (ww3 fx), .int .u64 (ww2 fx), .int .u64 (ww1 fx), .int .u64 (ww0 fx), .int .u64 (ww3 fy), .int .u64 (ww2 fy), .int .u64 (ww1 fy), .int .u64 (ww0 fy), .int .u64 (ww3 1), .int .u64 (ww2 1), .int .u64 (ww1 1), .int .u64 (ww0 1)], .agg #[.int .u64 (ww3 lx), .int .u64 (ww2 lx), .int .u64 (ww1 lx), .int .u64 (ww0 lx), .int .u64 (ww3 ly), .int .u64 (ww2 ly), .int .u64 (ww1 ly), .int .u64 (ww0 ly), .int .u64 (ww3 1), .int .u64 (ww2 1), .int .u64 (ww1 1), .int .u64 (ww0 1)]]) (by simp [results, Try.results55, go_sem, m0, n0, m1, n1, m2, n2, m3, n3, m4, n4, m5, n5, m6, n6, m7, n7, m8, n8, m9, n9, m10, n10, m11, n11]) rfl ?_
                    exact ⟨by rw [HO.out], by first | exact HBF | exact HBF.drew⟩)
            · have hT2 : (turnZ a b c d p q != 0) = true := by simpa using hT
              have HO : Hid (alongV a b c d p q u v = .tuple #[.int .i64 0, .agg #[.int .u64 0, .int .u64 0, .int .u64 0, .int .u64 0, .int .u64 0, .int .u64 0, .int .u64 0, .int .u64 0, .int .u64 0, .int .u64 0, .int .u64 0, .int .u64 0], .agg #[.int .u64 0, .int .u64 0, .int .u64 0, .int .u64 0, .int .u64 0, .int .u64 0, .int .u64 0, .int .u64 0, .int .u64 0, .int .u64 0, .int .u64 0, .int .u64 0]]) := by show _ = _; unfold alongV; rw [if_pos (Or.inl hT)]
              clear TT BS BT BF BL
              generalize turnZ a b c d p q = tz at *
              obtain ⟨xc0, xf0, xc1, xf1, xc2, xf2, xc3, xf3, xc4, xf4, xc5, xf5, xc6, xf6, xc7, xf7, xc8, xf8, xc9, xf9, xc10, xf10, xc11, xf11⟩ := BP.cf12; have xl := BP.lt; obtain ⟨yc0, yf0, yc1, yf1, yc2, yf2, yc3, yf3, yc4, yf4, yc5, yf5, yc6, yf6, yc7, yf7, yc8, yf8, yc9, yf9, yc10, yf10, yc11, yf11⟩ := BQ.cf12; have yl := BQ.lt
              go_wp2
              refine put24_ret BP BQ (by omega) (by omega) (by omega) HB fun WF F0 F1 HBF => ?_
              clear BP BQ HB xc0 xf0 xc1 xf1 xc2 xf2 xc3 xf3 xc4 xf4 xc5 xf5 xc6 xf6 xc7 xf7 xc8 xf8 xc9 xf9 xc10 xf10 xc11 xf11 xl yc0 yf0 yc1 yf1 yc2 yf2 yc3 yf3 yc4 yf4 yc5 yf5 yc6 yf6 yc7 yf7 yc8 yf8 yc9 yf9 yc10 yf10 yc11 yf11 yl
              have m0 := F0.c 0 rfl; have n0 := F1.c 0 rfl; have m1 := F0.c 1 rfl; have n1 := F1.c 1 rfl; have m2 := F0.c 2 rfl; have n2 := F1.c 2 rfl; have m3 := F0.c 3 rfl; have n3 := F1.c 3 rfl; have m4 := F0.c 4 rfl; have n4 := F1.c 4 rfl; have m5 := F0.c 5 rfl; have n5 := F1.c 5 rfl; have m6 := F0.c 6 rfl; have n6 := F1.c 6 rfl; have m7 := F0.c 7 rfl; have n7 := F1.c 7 rfl; have m8 := F0.c 8 rfl; have n8 := F1.c 8 rfl; have m9 := F0.c 9 rfl; have n9 := F1.c 9 rfl; have m10 := F0.c 10 rfl; have n10 := F1.c 10 rfl; have m11 := F0.c 11 rfl; have n11 := F1.c 11 rfl
              refine bodyPost_ret (v := .tuple #[.int .i64 0, .agg #[.int .u64 0, .int .u64 0, .int .u64 0, .int .u64 0, .int .u64 0, .int .u64 0, .int .u64 0, .int .u64 0, .int .u64 0, .int .u64 0, .int .u64 0, .int .u64 0], .agg #[.int .u64 0, .int .u64 0, .int .u64 0, .int .u64 0, .int .u64 0, .int .u64 0, .int .u64 0, .int .u64 0, .int .u64 0, .int .u64 0, .int .u64 0, .int .u64 0]]) (by simp [results, Try.results55, go_sem, m0, n0, m1, n1, m2, n2, m3, n3, m4, n4, m5, n5, m6, n6, m7, n7, m8, n8, m9, n9, m10, n10, m11, n11]) rfl ?_
              exact ⟨by rw [HO.out], by first | exact HBF | exact HBF.drew⟩
end Go.Proofs.Ytbhhegmlfclhbaa

/- Where two segments meet: the program's walk. -/
namespace Go.Proofs.Ytbhhegmlfclhbaa
open Go.RowKit
theorem sizeS_det (n : Int) (h0 : -9223372036854775807 ≤ n) (h1 : n ≤ 9223372036854775807) (w : World) : Calls Try.prog 70 #[.int .i64 n] w (VP (.int .u64 (n.natAbs : Int)) w) := by
  by_cases h : 0 ≤ n
  · have e1 : max n (-n) = n := by omega
    have e2 : (n.natAbs : Int) = n := by omega
    rw [e2]
    go_enter Try.func70, Try.ntmps70
    go_wp2
    go_ret
    exact ⟨rfl, Below.refl _ _⟩
  · have e1 : max n (-n) = -n := by omega
    have e2 : (n.natAbs : Int) = -n := by omega
    rw [e2]
    go_enter Try.func70, Try.ntmps70
    go_wp2
    go_ret
    exact ⟨rfl, Below.refl _ _⟩
theorem gcd_3a (x y z : Int) : Int.gcd (y.natAbs : Int) (Int.gcd (x.natAbs : Int) (z.natAbs : Int) : Int) = Int.gcd (Int.gcd x y : Int) z := by
  unfold Int.gcd
  simp only [Int.natAbs_natCast]
  rw [Nat.gcd_assoc, Nat.gcd_left_comm]
theorem gcd3_dvd (x y z : Int) : (Int.gcd (Int.gcd x y : Int) z : Int) ∣ x ∧ (Int.gcd (Int.gcd x y : Int) z : Int) ∣ y ∧ (Int.gcd (Int.gcd x y : Int) z : Int) ∣ z := by
  have h1 : (Int.gcd (Int.gcd x y : Int) z : Int) ∣ (Int.gcd x y : Int) := Int.gcd_dvd_left _ _
  exact ⟨Int.dvd_trans h1 (Int.gcd_dvd_left _ _), Int.dvd_trans h1 (Int.gcd_dvd_right _ _), Int.gcd_dvd_right _ _⟩
theorem tdiv_share {n g z : Int} (hg : 0 < g) (hd : g ∣ n) : n.tdiv (if z < 0 then -g else g) = shareZ n g (decide (z < 0)) := by
  obtain ⟨k, rfl⟩ := hd
  have e : ((g * k).natAbs : Int) / g = (k.natAbs : Int) := by
    rw [Int.natAbs_mul, Int.natCast_mul, show ((g.natAbs : Nat) : Int) = g by omega]
    exact Int.mul_ediv_cancel_left _ (by omega)
  have s1 : g * k < 0 ↔ k < 0 := by
    constructor
    · intro h
      apply Decidable.byContradiction
      intro h'
      have := Int.mul_nonneg (a := g) (b := k) (by omega) (by omega)
      omega
    · intro h
      exact Int.mul_neg_of_pos_of_neg hg h
  unfold shareZ
  rw [e]
  by_cases hz : z < 0
  · rw [if_pos hz, decide_eq_true hz, Int.tdiv_neg, Int.mul_tdiv_cancel_left _ (by omega)]
    by_cases hk : k < 0
    · rw [decide_eq_true (s1.2 hk), if_neg (by decide)]; omega
    · rw [decide_eq_false (fun h => hk (s1.1 h)), if_pos (by decide)]; omega
  · rw [if_neg hz, decide_eq_false hz, Int.mul_tdiv_cancel_left _ (by omega)]
    by_cases hk : k < 0
    · rw [decide_eq_true (s1.2 hk), if_pos (by decide)]; omega
    · rw [decide_eq_false (fun h => hk (s1.1 h)), if_neg (by decide)]; omega
theorem share_abs {n g : Int} {b : Bool} (hg : 0 < g) : -(n.natAbs : Int) ≤ shareZ n g b ∧ shareZ n g b ≤ (n.natAbs : Int) := by
  have h1 := Int.ediv_nonneg (a := (n.natAbs : Int)) (b := g) (by omega) (by omega)
  have h2 := Int.ediv_le_self (a := (n.natAbs : Int)) g (by omega)
  unfold shareZ
  split <;> omega
set_option maxRecDepth 100000 in
set_option maxHeartbeats 4000000 in
theorem smallPoint_det (x y z : Int) (hx : -9000000000000000000 ≤ x ∧ x ≤ 9000000000000000000) (hy : -9000000000000000000 ≤ y ∧ y ≤ 9000000000000000000) (hz : -8000000000000 ≤ z ∧ z ≤ 8000000000000) (h0 : z ≠ 0) (w : World) : Calls Try.prog 57 #[.int .i64 x, .int .i64 y, .int .i64 z] w (VP (.agg #[.int .u64 (ww3 (shareZ x (Int.gcd (Int.gcd x y : Int) z : Int) (decide (z < 0)))), .int .u64 (ww2 (shareZ x (Int.gcd (Int.gcd x y : Int) z : Int) (decide (z < 0)))), .int .u64 (ww1 (shareZ x (Int.gcd (Int.gcd x y : Int) z : Int) (decide (z < 0)))), .int .u64 (ww0 (shareZ x (Int.gcd (Int.gcd x y : Int) z : Int) (decide (z < 0)))), .int .u64 (ww3 (shareZ y (Int.gcd (Int.gcd x y : Int) z : Int) (decide (z < 0)))), .int .u64 (ww2 (shareZ y (Int.gcd (Int.gcd x y : Int) z : Int) (decide (z < 0)))), .int .u64 (ww1 (shareZ y (Int.gcd (Int.gcd x y : Int) z : Int) (decide (z < 0)))), .int .u64 (ww0 (shareZ y (Int.gcd (Int.gcd x y : Int) z : Int) (decide (z < 0)))), .int .u64 (ww3 (shareZ z (Int.gcd (Int.gcd x y : Int) z : Int) (decide (z < 0)))), .int .u64 (ww2 (shareZ z (Int.gcd (Int.gcd x y : Int) z : Int) (decide (z < 0)))), .int .u64 (ww1 (shareZ z (Int.gcd (Int.gcd x y : Int) z : Int) (decide (z < 0)))), .int .u64 (ww0 (shareZ z (Int.gcd (Int.gcd x y : Int) z : Int) (decide (z < 0))))]) w) := by
  have gp : 0 < Int.gcd (Int.gcd x y : Int) z := Int.gcd_pos_of_ne_zero_right _ h0
  have gpI : (0 : Int) < (Int.gcd (Int.gcd x y : Int) z : Int) := by omega
  obtain ⟨d1, d2, d3⟩ := gcd3_dvd x y z
  have gz : (Int.gcd (Int.gcd x y : Int) z : Int) ≤ (z.natAbs : Int) := Int.le_of_dvd (by omega) (Int.dvd_natAbs.2 d3)
  have gx : Int.gcd (x.natAbs : Int) (z.natAbs : Int) ≤ z.natAbs := Nat.gcd_le_right _ (by omega)
  have S1 := sizeS_det x (by omega) (by omega)
  have S2 := sizeS_det y (by omega) (by omega)
  have S3 := sizeS_det z (by omega) (by omega)
  have C1 := gcdW_any (x.natAbs : Int) (z.natAbs : Int) ⟨by omega, by omega⟩ ⟨by omega, by omega⟩
  have C2 := gcdW_any (y.natAbs : Int) (Int.gcd (x.natAbs : Int) (z.natAbs : Int) : Int) ⟨by omega, by omega⟩ ⟨by omega, by omega⟩
  unfold GcdWP at C1 C2
  rw [gcd_3a] at C2
  have q1 := share_abs (n := x) (b := decide (z < 0)) gpI; have q2 := share_abs (n := y) (b := decide (z < 0)) gpI; have q3 := share_abs (n := z) (b := decide (z < 0)) gpI
  have t1 := tdiv_share (z := z) gpI d1; have t2 := tdiv_share (z := z) gpI d2; have t3 := tdiv_share (z := z) gpI d3
  generalize (shareZ x (Int.gcd (Int.gcd x y : Int) z : Int) (decide (z < 0))) = sx at *
  generalize (shareZ y (Int.gcd (Int.gcd x y : Int) z : Int) (decide (z < 0))) = sy at *
  generalize (shareZ z (Int.gcd (Int.gcd x y : Int) z : Int) (decide (z < 0))) = sz at *
  clear d1 d2 d3 gp
  generalize (Int.gcd (Int.gcd x y : Int) z : Int) = gg at *
  generalize (Int.gcd (x.natAbs : Int) (z.natAbs : Int) : Int) = g1 at *
  have B0 := Blk.new w [.int .u64 0, .int .u64 0, .int .u64 0, .int .u64 0, .int .u64 0, .int .u64 0, .int .u64 0, .int .u64 0, .int .u64 0, .int .u64 0, .int .u64 0, .int .u64 0] 67 rfl
  have HB : Below w.heap.size w (w.alloc (.cells #[.int .u64 0, .int .u64 0, .int .u64 0, .int .u64 0, .int .u64 0, .int .u64 0, .int .u64 0, .int .u64 0, .int .u64 0, .int .u64 0, .int .u64 0, .int .u64 0] 67)) := (Below.refl _ _).alloc (Nat.le_refl _) _
  have zb : (z.natAbs : Int) ≤ 8000000000000 := by omega
  have xb : (x.natAbs : Int) ≤ 9000000000000000000 := by omega
  have yb : (y.natAbs : Int) ≤ 9000000000000000000 := by omega
  generalize (x.natAbs : Int) = ax at *
  generalize (y.natAbs : Int) = ay at *
  generalize (z.natAbs : Int) = az at *
  by_cases hz0 : z < 0
  · rw [if_pos hz0] at t1 t2 t3
    have t1' : -(x.tdiv gg) = sx := by rw [← Int.tdiv_neg]; exact t1
    have t2' : -(y.tdiv gg) = sy := by rw [← Int.tdiv_neg]; exact t2
    have t3' : -(z.tdiv gg) = sz := by rw [← Int.tdiv_neg]; exact t3
    go_enter Try.func57, Try.ntmps57
    go_wp2_with fail
    refine (S1 _).mono ?_
    rintro e w1 ⟨rfl, hB⟩
    replace B0 := B0.step hB; replace HB := HB.trans (hB.mono HB.size)
    clear hB
    go_wp2_with fail
    refine (S3 _).mono ?_
    rintro e w2 ⟨rfl, hB⟩
    replace B0 := B0.step hB; replace HB := HB.trans (hB.mono HB.size)
    clear hB
    go_wp2_with fail
    refine (C1 _).mono ?_
    rintro e w3 ⟨rfl, hB⟩
    replace B0 := B0.step hB; replace HB := HB.trans (hB.mono HB.size)
    clear hB
    go_wp2_with fail
    refine (S2 _).mono ?_
    rintro e w4 ⟨rfl, hB⟩
    replace B0 := B0.step hB; replace HB := HB.trans (hB.mono HB.size)
    clear hB
    go_wp2_with fail
    refine (C2 _).mono ?_
    rintro e w5 ⟨rfl, hB⟩
    replace B0 := B0.step hB; replace HB := HB.trans (hB.mono HB.size)
    clear hB
    have hB0 : (-gg) ≠ 0 := by omega
    have O1 := fun w => implOf_det sx w (by omega) (by omega)
    have O2 := fun w => implOf_det sy w (by omega) (by omega)
    have O3 := fun w => implOf_det sz w (by omega) (by omega)
    have tok1 : True := trivial
    have tok2 : True := trivial
    go_upto_region 5 with fail
    have hw1 : IntKind.i64.wrap sx = sx := wrapI (by omega) (by omega)
    have hw2 : IntKind.i64.wrap sy = sy := wrapI (by omega) (by omega)
    have hw3 : IntKind.i64.wrap sz = sz := wrapI (by omega) (by omega)
    clear q1 q2 q3 gz gx zb xb yb S1 S2 S3 C1 C2
    go_region_held3 (fun _ => True) (trivial)
      (first
        | (go_at_call 71; have _t := tok1; refine (O1 _).mono ?_; rintro e w6 ⟨rfl, hB⟩; (first | (replace B0 := B0.step hB; replace HB := HB.trans (hB.mono HB.size)) | (replace B0 := B0.drew.step hB; replace HB := HB.drew.trans (hB.mono HB.drew.size))); clear hB; clear tok1 _t)
        | (go_at_call 71; have _t := tok2; refine (O2 _).mono ?_; rintro e w7 ⟨rfl, hB⟩; (first | (replace B0 := B0.step hB; replace HB := HB.trans (hB.mono HB.size)) | (replace B0 := B0.drew.step hB; replace HB := HB.drew.trans (hB.mono HB.drew.size))); clear hB; clear tok2 _t)
        | (go_at_call 71; refine (O3 _).mono ?_; rintro e w8 ⟨rfl, hB⟩; (first | (replace B0 := B0.step hB; replace HB := HB.trans (hB.mono HB.size)) | (replace B0 := B0.drew.step hB; replace HB := HB.drew.trans (hB.mono HB.drew.size))); clear hB; have oc0 := B0.c 0 rfl; have of0 := B0.f 0 rfl; have oc1 := B0.c 1 rfl; have of1 := B0.f 1 rfl; have oc2 := B0.c 2 rfl; have of2 := B0.f 2 rfl; have oc3 := B0.c 3 rfl; have of3 := B0.f 3 rfl; have oc4 := B0.c 4 rfl; have of4 := B0.f 4 rfl; have oc5 := B0.c 5 rfl; have of5 := B0.f 5 rfl; have oc6 := B0.c 6 rfl; have of6 := B0.f 6 rfl; have oc7 := B0.c 7 rfl; have of7 := B0.f 7 rfl; have oc8 := B0.c 8 rfl; have of8 := B0.f 8 rfl; have oc9 := B0.c 9 rfl; have of9 := B0.f 9 rfl; have oc10 := B0.c 10 rfl; have of10 := B0.f 10 rfl; have oc11 := B0.c 11 rfl; have of11 := B0.f 11 rfl; have ol := B0.lt))
    all_goals clear B0
    all_goals go_wp2
    all_goals refine bodyPost_ret (v := .agg #[.int .u64 (ww3 sx), .int .u64 (ww2 sx), .int .u64 (ww1 sx), .int .u64 (ww0 sx), .int .u64 (ww3 sy), .int .u64 (ww2 sy), .int .u64 (ww1 sy), .int .u64 (ww0 sy), .int .u64 (ww3 sz), .int .u64 (ww2 sz), .int .u64 (ww1 sz), .int .u64 (ww0 sz)]) (by simp [results, Try.results57, go_sem, oc0, oc1, oc2, oc3, oc4, oc5, oc6, oc7, oc8, oc9, oc10, oc11]) rfl ?_
    all_goals refine ⟨rfl, ?_⟩
    all_goals repeat' (refine Below.setCell ?_ (by simp) _)
    all_goals first | exact HB | exact HB.drew
  · rw [if_neg hz0] at t1 t2 t3
    go_enter Try.func57, Try.ntmps57
    go_wp2_with fail
    refine (S1 _).mono ?_
    rintro e w1 ⟨rfl, hB⟩
    replace B0 := B0.step hB; replace HB := HB.trans (hB.mono HB.size)
    clear hB
    go_wp2_with fail
    refine (S3 _).mono ?_
    rintro e w2 ⟨rfl, hB⟩
    replace B0 := B0.step hB; replace HB := HB.trans (hB.mono HB.size)
    clear hB
    go_wp2_with fail
    refine (C1 _).mono ?_
    rintro e w3 ⟨rfl, hB⟩
    replace B0 := B0.step hB; replace HB := HB.trans (hB.mono HB.size)
    clear hB
    go_wp2_with fail
    refine (S2 _).mono ?_
    rintro e w4 ⟨rfl, hB⟩
    replace B0 := B0.step hB; replace HB := HB.trans (hB.mono HB.size)
    clear hB
    go_wp2_with fail
    refine (C2 _).mono ?_
    rintro e w5 ⟨rfl, hB⟩
    replace B0 := B0.step hB; replace HB := HB.trans (hB.mono HB.size)
    clear hB
    have hB0 : gg ≠ 0 := by omega
    have O1 := fun w => implOf_det sx w (by omega) (by omega)
    have O2 := fun w => implOf_det sy w (by omega) (by omega)
    have O3 := fun w => implOf_det sz w (by omega) (by omega)
    have tok1 : True := trivial
    have tok2 : True := trivial
    go_upto_region 5 with fail
    have hw1 : IntKind.i64.wrap sx = sx := wrapI (by omega) (by omega)
    have hw2 : IntKind.i64.wrap sy = sy := wrapI (by omega) (by omega)
    have hw3 : IntKind.i64.wrap sz = sz := wrapI (by omega) (by omega)
    clear q1 q2 q3 gz gx zb xb yb S1 S2 S3 C1 C2
    go_region_held3 (fun _ => True) (trivial)
      (first
        | (go_at_call 71; have _t := tok1; refine (O1 _).mono ?_; rintro e w6 ⟨rfl, hB⟩; (first | (replace B0 := B0.step hB; replace HB := HB.trans (hB.mono HB.size)) | (replace B0 := B0.drew.step hB; replace HB := HB.drew.trans (hB.mono HB.drew.size))); clear hB; clear tok1 _t)
        | (go_at_call 71; have _t := tok2; refine (O2 _).mono ?_; rintro e w7 ⟨rfl, hB⟩; (first | (replace B0 := B0.step hB; replace HB := HB.trans (hB.mono HB.size)) | (replace B0 := B0.drew.step hB; replace HB := HB.drew.trans (hB.mono HB.drew.size))); clear hB; clear tok2 _t)
        | (go_at_call 71; refine (O3 _).mono ?_; rintro e w8 ⟨rfl, hB⟩; (first | (replace B0 := B0.step hB; replace HB := HB.trans (hB.mono HB.size)) | (replace B0 := B0.drew.step hB; replace HB := HB.drew.trans (hB.mono HB.drew.size))); clear hB; have oc0 := B0.c 0 rfl; have of0 := B0.f 0 rfl; have oc1 := B0.c 1 rfl; have of1 := B0.f 1 rfl; have oc2 := B0.c 2 rfl; have of2 := B0.f 2 rfl; have oc3 := B0.c 3 rfl; have of3 := B0.f 3 rfl; have oc4 := B0.c 4 rfl; have of4 := B0.f 4 rfl; have oc5 := B0.c 5 rfl; have of5 := B0.f 5 rfl; have oc6 := B0.c 6 rfl; have of6 := B0.f 6 rfl; have oc7 := B0.c 7 rfl; have of7 := B0.f 7 rfl; have oc8 := B0.c 8 rfl; have of8 := B0.f 8 rfl; have oc9 := B0.c 9 rfl; have of9 := B0.f 9 rfl; have oc10 := B0.c 10 rfl; have of10 := B0.f 10 rfl; have oc11 := B0.c 11 rfl; have of11 := B0.f 11 rfl; have ol := B0.lt))
    all_goals clear B0
    all_goals go_wp2
    all_goals refine bodyPost_ret (v := .agg #[.int .u64 (ww3 sx), .int .u64 (ww2 sx), .int .u64 (ww1 sx), .int .u64 (ww0 sx), .int .u64 (ww3 sy), .int .u64 (ww2 sy), .int .u64 (ww1 sy), .int .u64 (ww0 sy), .int .u64 (ww3 sz), .int .u64 (ww2 sz), .int .u64 (ww1 sz), .int .u64 (ww0 sz)]) (by simp [results, Try.results57, go_sem, oc0, oc1, oc2, oc3, oc4, oc5, oc6, oc7, oc8, oc9, oc10, oc11]) rfl ?_
    all_goals refine ⟨rfl, ?_⟩
    all_goals repeat' (refine Below.setCell ?_ (by simp) _)
    all_goals first | exact HB | exact HB.drew
end Go.Proofs.Ytbhhegmlfclhbaa
