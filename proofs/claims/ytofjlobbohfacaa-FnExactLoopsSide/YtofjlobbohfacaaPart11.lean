/- Part 11 of the walks that the proof leans on. -/
import Derived.Test.YtofjlobbohfacaaPart10
import Derived.Test.YtofjlobbohfacaaPart1
import Derived.Test.YtofjlobbohfacaaRows
import Derived.ProofKit
import Derived.Lib.SmallJoins
import Derived.Test.YtofjlobbohfacaaPart7
import Derived.Deep.Strs
/- What lies between two points: the program's walks. -/
namespace Go.Proofs.Ytofjlobbohfacaa
open Go.RowKit
theorem b3_cells {x y z u v t a b c : Int} {w W : World} (T0 : ArgsB w W [[.int .u64 (ww3 x), .int .u64 (ww2 x), .int .u64 (ww1 x), .int .u64 (ww0 x), .int .u64 (ww3 y), .int .u64 (ww2 y), .int .u64 (ww1 y), .int .u64 (ww0 y), .int .u64 (ww3 z), .int .u64 (ww2 z), .int .u64 (ww1 z), .int .u64 (ww0 z)], [.int .u64 (ww3 u), .int .u64 (ww2 u), .int .u64 (ww1 u), .int .u64 (ww0 u), .int .u64 (ww3 v), .int .u64 (ww2 v), .int .u64 (ww1 v), .int .u64 (ww0 v), .int .u64 (ww3 t), .int .u64 (ww2 t), .int .u64 (ww1 t), .int .u64 (ww0 t)], [.int .u64 (ww3 a), .int .u64 (ww2 a), .int .u64 (ww1 a), .int .u64 (ww0 a), .int .u64 (ww3 b), .int .u64 (ww2 b), .int .u64 (ww1 b), .int .u64 (ww0 b), .int .u64 (ww3 c), .int .u64 (ww2 c), .int .u64 (ww1 c), .int .u64 (ww0 c)]]) : (fun w' => w'.cell? ⟨w.heap.size, 0, none⟩ = some (.int .u64 (ww3 x)) ∧ w'.cell? ⟨w.heap.size, 1, none⟩ = some (.int .u64 (ww2 x)) ∧ w'.cell? ⟨w.heap.size, 2, none⟩ = some (.int .u64 (ww1 x)) ∧ w'.cell? ⟨w.heap.size, 3, none⟩ = some (.int .u64 (ww0 x)) ∧ w'.cell? ⟨w.heap.size, 4, none⟩ = some (.int .u64 (ww3 y)) ∧ w'.cell? ⟨w.heap.size, 5, none⟩ = some (.int .u64 (ww2 y)) ∧ w'.cell? ⟨w.heap.size, 6, none⟩ = some (.int .u64 (ww1 y)) ∧ w'.cell? ⟨w.heap.size, 7, none⟩ = some (.int .u64 (ww0 y)) ∧ w'.cell? ⟨w.heap.size, 8, none⟩ = some (.int .u64 (ww3 z)) ∧ w'.cell? ⟨w.heap.size, 9, none⟩ = some (.int .u64 (ww2 z)) ∧ w'.cell? ⟨w.heap.size, 10, none⟩ = some (.int .u64 (ww1 z)) ∧ w'.cell? ⟨w.heap.size, 11, none⟩ = some (.int .u64 (ww0 z)) ∧ w'.cell? ⟨w.heap.size + 1, 0, none⟩ = some (.int .u64 (ww3 u)) ∧ w'.cell? ⟨w.heap.size + 1, 1, none⟩ = some (.int .u64 (ww2 u)) ∧ w'.cell? ⟨w.heap.size + 1, 2, none⟩ = some (.int .u64 (ww1 u)) ∧ w'.cell? ⟨w.heap.size + 1, 3, none⟩ = some (.int .u64 (ww0 u)) ∧ w'.cell? ⟨w.heap.size + 1, 4, none⟩ = some (.int .u64 (ww3 v)) ∧ w'.cell? ⟨w.heap.size + 1, 5, none⟩ = some (.int .u64 (ww2 v)) ∧ w'.cell? ⟨w.heap.size + 1, 6, none⟩ = some (.int .u64 (ww1 v)) ∧ w'.cell? ⟨w.heap.size + 1, 7, none⟩ = some (.int .u64 (ww0 v)) ∧ w'.cell? ⟨w.heap.size + 1, 8, none⟩ = some (.int .u64 (ww3 t)) ∧ w'.cell? ⟨w.heap.size + 1, 9, none⟩ = some (.int .u64 (ww2 t)) ∧ w'.cell? ⟨w.heap.size + 1, 10, none⟩ = some (.int .u64 (ww1 t)) ∧ w'.cell? ⟨w.heap.size + 1, 11, none⟩ = some (.int .u64 (ww0 t)) ∧ w'.cell? ⟨w.heap.size + 2, 0, none⟩ = some (.int .u64 (ww3 a)) ∧ w'.cell? ⟨w.heap.size + 2, 1, none⟩ = some (.int .u64 (ww2 a)) ∧ w'.cell? ⟨w.heap.size + 2, 2, none⟩ = some (.int .u64 (ww1 a)) ∧ w'.cell? ⟨w.heap.size + 2, 3, none⟩ = some (.int .u64 (ww0 a)) ∧ w'.cell? ⟨w.heap.size + 2, 4, none⟩ = some (.int .u64 (ww3 b)) ∧ w'.cell? ⟨w.heap.size + 2, 5, none⟩ = some (.int .u64 (ww2 b)) ∧ w'.cell? ⟨w.heap.size + 2, 6, none⟩ = some (.int .u64 (ww1 b)) ∧ w'.cell? ⟨w.heap.size + 2, 7, none⟩ = some (.int .u64 (ww0 b)) ∧ w'.cell? ⟨w.heap.size + 2, 8, none⟩ = some (.int .u64 (ww3 c)) ∧ w'.cell? ⟨w.heap.size + 2, 9, none⟩ = some (.int .u64 (ww2 c)) ∧ w'.cell? ⟨w.heap.size + 2, 10, none⟩ = some (.int .u64 (ww1 c)) ∧ w'.cell? ⟨w.heap.size + 2, 11, none⟩ = some (.int .u64 (ww0 c))) W := ⟨(T0.b 0 rfl).c 0 rfl, (T0.b 0 rfl).c 1 rfl, (T0.b 0 rfl).c 2 rfl, (T0.b 0 rfl).c 3 rfl, (T0.b 0 rfl).c 4 rfl, (T0.b 0 rfl).c 5 rfl, (T0.b 0 rfl).c 6 rfl, (T0.b 0 rfl).c 7 rfl, (T0.b 0 rfl).c 8 rfl, (T0.b 0 rfl).c 9 rfl, (T0.b 0 rfl).c 10 rfl, (T0.b 0 rfl).c 11 rfl, (T0.b 1 rfl).c 0 rfl, (T0.b 1 rfl).c 1 rfl, (T0.b 1 rfl).c 2 rfl, (T0.b 1 rfl).c 3 rfl, (T0.b 1 rfl).c 4 rfl, (T0.b 1 rfl).c 5 rfl, (T0.b 1 rfl).c 6 rfl, (T0.b 1 rfl).c 7 rfl, (T0.b 1 rfl).c 8 rfl, (T0.b 1 rfl).c 9 rfl, (T0.b 1 rfl).c 10 rfl, (T0.b 1 rfl).c 11 rfl, (T0.b 2 rfl).c 0 rfl, (T0.b 2 rfl).c 1 rfl, (T0.b 2 rfl).c 2 rfl, (T0.b 2 rfl).c 3 rfl, (T0.b 2 rfl).c 4 rfl, (T0.b 2 rfl).c 5 rfl, (T0.b 2 rfl).c 6 rfl, (T0.b 2 rfl).c 7 rfl, (T0.b 2 rfl).c 8 rfl, (T0.b 2 rfl).c 9 rfl, (T0.b 2 rfl).c 10 rfl, (T0.b 2 rfl).c 11 rfl⟩
set_option maxRecDepth 100000 in
set_option maxHeartbeats 8000000 in
theorem lies_det (x y z u v t a b c : Int) (sx : small x = true) (sy : small y = true) (sz : small z = true) (su : small u = true) (sv : small v = true) (st : small t = true) (sa : small a = true) (sb : small b = true) (sc : small c = true) (hz : 0 < z) (ht : 0 < t) (hc : 0 < c) (w : World) : Calls Try.prog 66 #[PV x y z, PV u v t, PV a b c] w (VP (.bool (btwS x y z u v t a b c)) w) := by
  have T0 : ArgsB w (((w.alloc (.cells #[.int .u64 (ww3 x), .int .u64 (ww2 x), .int .u64 (ww1 x), .int .u64 (ww0 x), .int .u64 (ww3 y), .int .u64 (ww2 y), .int .u64 (ww1 y), .int .u64 (ww0 y), .int .u64 (ww3 z), .int .u64 (ww2 z), .int .u64 (ww1 z), .int .u64 (ww0 z)] 34)).alloc (.cells #[.int .u64 (ww3 u), .int .u64 (ww2 u), .int .u64 (ww1 u), .int .u64 (ww0 u), .int .u64 (ww3 v), .int .u64 (ww2 v), .int .u64 (ww1 v), .int .u64 (ww0 v), .int .u64 (ww3 t), .int .u64 (ww2 t), .int .u64 (ww1 t), .int .u64 (ww0 t)] 34)).alloc (.cells #[.int .u64 (ww3 a), .int .u64 (ww2 a), .int .u64 (ww1 a), .int .u64 (ww0 a), .int .u64 (ww3 b), .int .u64 (ww2 b), .int .u64 (ww1 b), .int .u64 (ww0 b), .int .u64 (ww3 c), .int .u64 (ww2 c), .int .u64 (ww1 c), .int .u64 (ww0 c)] 34)) [[.int .u64 (ww3 x), .int .u64 (ww2 x), .int .u64 (ww1 x), .int .u64 (ww0 x), .int .u64 (ww3 y), .int .u64 (ww2 y), .int .u64 (ww1 y), .int .u64 (ww0 y), .int .u64 (ww3 z), .int .u64 (ww2 z), .int .u64 (ww1 z), .int .u64 (ww0 z)], [.int .u64 (ww3 u), .int .u64 (ww2 u), .int .u64 (ww1 u), .int .u64 (ww0 u), .int .u64 (ww3 v), .int .u64 (ww2 v), .int .u64 (ww1 v), .int .u64 (ww0 v), .int .u64 (ww3 t), .int .u64 (ww2 t), .int .u64 (ww1 t), .int .u64 (ww0 t)], [.int .u64 (ww3 a), .int .u64 (ww2 a), .int .u64 (ww1 a), .int .u64 (ww0 a), .int .u64 (ww3 b), .int .u64 (ww2 b), .int .u64 (ww1 b), .int .u64 (ww0 b), .int .u64 (ww3 c), .int .u64 (ww2 c), .int .u64 (ww1 c), .int .u64 (ww0 c)]] := ar3 _ _ _ _ _ _ w
  have C1 := turn_det x y z u v t a b c sx sy sz su sv st sa sb sc
  rw [turn_same] at C1
  have C2 := order_det x y z a b c sx sy sz sa sb sc
  have C3 := order_det a b c u v t sa sb sc su sv st
  have hw : IntKind.i64.wrap (ordI x y z a b c * ordI a b c u v t) = ordI x y z a b c * ordI a b c u v t := by
    rcases ord_in x y z a b c with h | h | h <;> rcases ord_in a b c u v t with k | k | k <;> rw [h, k] <;> decide
  have HO : Hid ((decide (turnI x y z u v t a b c = 0) && decide (0 ≤ ordI x y z a b c * ordI a b c u v t)) = btwS x y z u v t a b c) := btw_same x y z u v t a b c hz ht hc
  clear sx sy sz su sv st sa sb sc hz ht hc
  generalize btwS x y z u v t a b c = R at *
  generalize turnI x y z u v t a b c = o1 at *
  generalize ordI x y z a b c = o2 at *
  generalize ordI a b c u v t = o3 at *
  go_enter Try.func66, Try.ntmps66
  go_upto_region 1 with fail
  generalize (((w.alloc (.cells #[.int .u64 (ww3 x), .int .u64 (ww2 x), .int .u64 (ww1 x), .int .u64 (ww0 x), .int .u64 (ww3 y), .int .u64 (ww2 y), .int .u64 (ww1 y), .int .u64 (ww0 y), .int .u64 (ww3 z), .int .u64 (ww2 z), .int .u64 (ww1 z), .int .u64 (ww0 z)] 34)).alloc (.cells #[.int .u64 (ww3 u), .int .u64 (ww2 u), .int .u64 (ww1 u), .int .u64 (ww0 u), .int .u64 (ww3 v), .int .u64 (ww2 v), .int .u64 (ww1 v), .int .u64 (ww0 v), .int .u64 (ww3 t), .int .u64 (ww2 t), .int .u64 (ww1 t), .int .u64 (ww0 t)] 34)).alloc (.cells #[.int .u64 (ww3 a), .int .u64 (ww2 a), .int .u64 (ww1 a), .int .u64 (ww0 a), .int .u64 (ww3 b), .int .u64 (ww2 b), .int .u64 (ww1 b), .int .u64 (ww0 b), .int .u64 (ww3 c), .int .u64 (ww2 c), .int .u64 (ww1 c), .int .u64 (ww0 c)] 34)) = W at *
  by_cases h : o1 = 0
  · subst h
    have HR : Hid (decide (0 ≤ o2 * o3) = R) := by show _ = _; rw [← HO.out]; simp
    clear HO
    have tok1 : True := trivial
    go_region_held3 (fun w' => w'.cell? ⟨w.heap.size, 0, none⟩ = some (.int .u64 (ww3 x)) ∧ w'.cell? ⟨w.heap.size, 1, none⟩ = some (.int .u64 (ww2 x)) ∧ w'.cell? ⟨w.heap.size, 2, none⟩ = some (.int .u64 (ww1 x)) ∧ w'.cell? ⟨w.heap.size, 3, none⟩ = some (.int .u64 (ww0 x)) ∧ w'.cell? ⟨w.heap.size, 4, none⟩ = some (.int .u64 (ww3 y)) ∧ w'.cell? ⟨w.heap.size, 5, none⟩ = some (.int .u64 (ww2 y)) ∧ w'.cell? ⟨w.heap.size, 6, none⟩ = some (.int .u64 (ww1 y)) ∧ w'.cell? ⟨w.heap.size, 7, none⟩ = some (.int .u64 (ww0 y)) ∧ w'.cell? ⟨w.heap.size, 8, none⟩ = some (.int .u64 (ww3 z)) ∧ w'.cell? ⟨w.heap.size, 9, none⟩ = some (.int .u64 (ww2 z)) ∧ w'.cell? ⟨w.heap.size, 10, none⟩ = some (.int .u64 (ww1 z)) ∧ w'.cell? ⟨w.heap.size, 11, none⟩ = some (.int .u64 (ww0 z)) ∧ w'.cell? ⟨w.heap.size + 1, 0, none⟩ = some (.int .u64 (ww3 u)) ∧ w'.cell? ⟨w.heap.size + 1, 1, none⟩ = some (.int .u64 (ww2 u)) ∧ w'.cell? ⟨w.heap.size + 1, 2, none⟩ = some (.int .u64 (ww1 u)) ∧ w'.cell? ⟨w.heap.size + 1, 3, none⟩ = some (.int .u64 (ww0 u)) ∧ w'.cell? ⟨w.heap.size + 1, 4, none⟩ = some (.int .u64 (ww3 v)) ∧ w'.cell? ⟨w.heap.size + 1, 5, none⟩ = some (.int .u64 (ww2 v)) ∧ w'.cell? ⟨w.heap.size + 1, 6, none⟩ = some (.int .u64 (ww1 v)) ∧ w'.cell? ⟨w.heap.size + 1, 7, none⟩ = some (.int .u64 (ww0 v)) ∧ w'.cell? ⟨w.heap.size + 1, 8, none⟩ = some (.int .u64 (ww3 t)) ∧ w'.cell? ⟨w.heap.size + 1, 9, none⟩ = some (.int .u64 (ww2 t)) ∧ w'.cell? ⟨w.heap.size + 1, 10, none⟩ = some (.int .u64 (ww1 t)) ∧ w'.cell? ⟨w.heap.size + 1, 11, none⟩ = some (.int .u64 (ww0 t)) ∧ w'.cell? ⟨w.heap.size + 2, 0, none⟩ = some (.int .u64 (ww3 a)) ∧ w'.cell? ⟨w.heap.size + 2, 1, none⟩ = some (.int .u64 (ww2 a)) ∧ w'.cell? ⟨w.heap.size + 2, 2, none⟩ = some (.int .u64 (ww1 a)) ∧ w'.cell? ⟨w.heap.size + 2, 3, none⟩ = some (.int .u64 (ww0 a)) ∧ w'.cell? ⟨w.heap.size + 2, 4, none⟩ = some (.int .u64 (ww3 b)) ∧ w'.cell? ⟨w.heap.size + 2, 5, none⟩ = some (.int .u64 (ww2 b)) ∧ w'.cell? ⟨w.heap.size + 2, 6, none⟩ = some (.int .u64 (ww1 b)) ∧ w'.cell? ⟨w.heap.size + 2, 7, none⟩ = some (.int .u64 (ww0 b)) ∧ w'.cell? ⟨w.heap.size + 2, 8, none⟩ = some (.int .u64 (ww3 c)) ∧ w'.cell? ⟨w.heap.size + 2, 9, none⟩ = some (.int .u64 (ww2 c)) ∧ w'.cell? ⟨w.heap.size + 2, 10, none⟩ = some (.int .u64 (ww1 c)) ∧ w'.cell? ⟨w.heap.size + 2, 11, none⟩ = some (.int .u64 (ww0 c))) (first | (with_reducible exact b3_cells T0) | (with_reducible exact b3_cells T0.drew))
      (first
        | (go_at_call 95; refine (C1 _).mono ?_; rintro e v1 ⟨rfl, hB⟩; (first | (have T1 := T0.step hB) | (have T1 := T0.drew.step hB)); clear T0; have T0 := T1; clear T1; clear hB)
        | (go_at_call 40; have _t := tok1; refine (C2 _).mono ?_; rintro e v2 ⟨rfl, hB⟩; (first | (have T1 := T0.step hB) | (have T1 := T0.drew.step hB)); clear T0; have T0 := T1; clear T1; clear hB; clear tok1 _t)
        | (go_at_call 40; refine (C3 _).mono ?_; rintro e v3 ⟨rfl, hB⟩; (first | (have T1 := T0.step hB) | (have T1 := T0.drew.step hB)); clear T0; have T0 := T1; clear T1; clear hB))
    all_goals have HB := T0.below
    all_goals clear T0
    all_goals go_wp2
    all_goals go_ret
    all_goals exact ⟨by rw [← HR.out]; simp, by first | exact HB | exact HB.drew⟩
  · have ho : (o1 == 0) = false := beq_eq_false_iff_ne.2 h
    have HR : Hid (R = false) := by show _ = _; rw [← HO.out]; simp [h]
    clear HO h hw
    refine wp_region_held_drew (S := (fun w' => w'.cell? ⟨w.heap.size, 0, none⟩ = some (.int .u64 (ww3 x)) ∧ w'.cell? ⟨w.heap.size, 1, none⟩ = some (.int .u64 (ww2 x)) ∧ w'.cell? ⟨w.heap.size, 2, none⟩ = some (.int .u64 (ww1 x)) ∧ w'.cell? ⟨w.heap.size, 3, none⟩ = some (.int .u64 (ww0 x)) ∧ w'.cell? ⟨w.heap.size, 4, none⟩ = some (.int .u64 (ww3 y)) ∧ w'.cell? ⟨w.heap.size, 5, none⟩ = some (.int .u64 (ww2 y)) ∧ w'.cell? ⟨w.heap.size, 6, none⟩ = some (.int .u64 (ww1 y)) ∧ w'.cell? ⟨w.heap.size, 7, none⟩ = some (.int .u64 (ww0 y)) ∧ w'.cell? ⟨w.heap.size, 8, none⟩ = some (.int .u64 (ww3 z)) ∧ w'.cell? ⟨w.heap.size, 9, none⟩ = some (.int .u64 (ww2 z)) ∧ w'.cell? ⟨w.heap.size, 10, none⟩ = some (.int .u64 (ww1 z)) ∧ w'.cell? ⟨w.heap.size, 11, none⟩ = some (.int .u64 (ww0 z)) ∧ w'.cell? ⟨w.heap.size + 1, 0, none⟩ = some (.int .u64 (ww3 u)) ∧ w'.cell? ⟨w.heap.size + 1, 1, none⟩ = some (.int .u64 (ww2 u)) ∧ w'.cell? ⟨w.heap.size + 1, 2, none⟩ = some (.int .u64 (ww1 u)) ∧ w'.cell? ⟨w.heap.size + 1, 3, none⟩ = some (.int .u64 (ww0 u)) ∧ w'.cell? ⟨w.heap.size + 1, 4, none⟩ = some (.int .u64 (ww3 v)) ∧ w'.cell? ⟨w.heap.size + 1, 5, none⟩ = some (.int .u64 (ww2 v)) ∧ w'.cell? ⟨w.heap.size + 1, 6, none⟩ = some (.int .u64 (ww1 v)) ∧ w'.cell? ⟨w.heap.size + 1, 7, none⟩ = some (.int .u64 (ww0 v)) ∧ w'.cell? ⟨w.heap.size + 1, 8, none⟩ = some (.int .u64 (ww3 t)) ∧ w'.cell? ⟨w.heap.size + 1, 9, none⟩ = some (.int .u64 (ww2 t)) ∧ w'.cell? ⟨w.heap.size + 1, 10, none⟩ = some (.int .u64 (ww1 t)) ∧ w'.cell? ⟨w.heap.size + 1, 11, none⟩ = some (.int .u64 (ww0 t)) ∧ w'.cell? ⟨w.heap.size + 2, 0, none⟩ = some (.int .u64 (ww3 a)) ∧ w'.cell? ⟨w.heap.size + 2, 1, none⟩ = some (.int .u64 (ww2 a)) ∧ w'.cell? ⟨w.heap.size + 2, 2, none⟩ = some (.int .u64 (ww1 a)) ∧ w'.cell? ⟨w.heap.size + 2, 3, none⟩ = some (.int .u64 (ww0 a)) ∧ w'.cell? ⟨w.heap.size + 2, 4, none⟩ = some (.int .u64 (ww3 b)) ∧ w'.cell? ⟨w.heap.size + 2, 5, none⟩ = some (.int .u64 (ww2 b)) ∧ w'.cell? ⟨w.heap.size + 2, 6, none⟩ = some (.int .u64 (ww1 b)) ∧ w'.cell? ⟨w.heap.size + 2, 7, none⟩ = some (.int .u64 (ww0 b)) ∧ w'.cell? ⟨w.heap.size + 2, 8, none⟩ = some (.int .u64 (ww3 c)) ∧ w'.cell? ⟨w.heap.size + 2, 9, none⟩ = some (.int .u64 (ww2 c)) ∧ w'.cell? ⟨w.heap.size + 2, 10, none⟩ = some (.int .u64 (ww1 c)) ∧ w'.cell? ⟨w.heap.size + 2, 11, none⟩ = some (.int .u64 (ww0 c)))) (by kernel_rfl) (b3_cells T0.drew) (fun hHeld => ?_)
    refine wpAnyH_take (i := 0) (v := PV x y z) rfl (by kernel_rfl) (by kernel_rfl) (by kernel_rfl) (fun _ _ _ h => h) (Or.inl ⟨by kernel_rfl, ?_⟩) (by assumption) ?_
    · intro w hSw
      (try dsimp only at hSw)
      go_simp
    refine wpAnyH_take (i := 1) (v := PV u v t) rfl (by kernel_rfl) (by kernel_rfl) (by kernel_rfl) (fun _ _ _ h => h) (Or.inl ⟨by kernel_rfl, ?_⟩) (by assumption) ?_
    · intro w hSw
      (try dsimp only at hSw)
      go_simp
    refine wpAnyH_take (i := 2) (v := PV a b c) rfl (by kernel_rfl) (by kernel_rfl) (by kernel_rfl) (fun _ _ _ h => h) (Or.inl ⟨by kernel_rfl, ?_⟩) (by assumption) ?_
    · intro w hSw
      (try dsimp only at hSw)
      go_simp
    refine wpAnyH_ready (rs := [3]) (by kernel_rfl) (by simp) ?_
    refine AllReadyH.cons rfl (fun K hK => ?_) AllReadyH.nil
    go_simp
    go_wp2_with (go_at_call 95; refine (C1 _).mono ?_; rintro e v1 ⟨rfl, hB⟩; (first | (have T1 := T0.step hB) | (have T1 := T0.drew.step hB)); clear T0; have T0 := T1; clear T1; clear hB)
    clear hHeld
    refine hK.out _ _ (b3_cells T0) (fun hHeld => ?_)
    clear hK
    refine wpAnyH_take (i := 4) (v := .bool false) rfl (by kernel_rfl) (by kernel_rfl) (by kernel_rfl) (fun _ _ _ h => h) (Or.inl ⟨by kernel_rfl, ?_⟩) (by assumption) ?_
    · intro w hSw
      (try dsimp only at hSw)
      go_simp
    refine wpAnyH_take (i := 5) (v := .bool false) rfl (by kernel_rfl) (by kernel_rfl) (by kernel_rfl) (fun _ _ _ h => h) (Or.inl ⟨by kernel_rfl, ?_⟩) (by assumption) ?_
    · intro w hSw
      (try dsimp only at hSw)
      go_simp
    refine wpAnyH_take (i := 6) (v := undef) rfl (by kernel_rfl) (by kernel_rfl) (by kernel_rfl) (fun _ _ _ h => h) (Or.inr ⟨by kernel_rfl, rfl⟩) (by assumption) ?_
    refine wpAnyH_take (i := 7) (v := undef) rfl (by kernel_rfl) (by kernel_rfl) (by kernel_rfl) (fun _ _ _ h => h) (Or.inr ⟨by kernel_rfl, rfl⟩) (by assumption) ?_
    refine wpAnyH_take (i := 8) (v := undef) rfl (by kernel_rfl) (by kernel_rfl) (by kernel_rfl) (fun _ _ _ h => h) (Or.inr ⟨by kernel_rfl, rfl⟩) (by assumption) ?_
    refine wpAnyH_take (i := 9) (v := undef) rfl (by kernel_rfl) (by kernel_rfl) (by kernel_rfl) (fun _ _ _ h => h) (Or.inr ⟨by kernel_rfl, rfl⟩) (by assumption) ?_
    refine wpAnyH_take (i := 10) (v := undef) rfl (by kernel_rfl) (by kernel_rfl) (by kernel_rfl) (fun _ _ _ h => h) (Or.inr ⟨by kernel_rfl, rfl⟩) (by assumption) ?_
    refine wpAnyH_take (i := 11) (v := undef) rfl (by kernel_rfl) (by kernel_rfl) (by kernel_rfl) (fun _ _ _ h => h) (Or.inr ⟨by kernel_rfl, rfl⟩) (by assumption) ?_
    refine wpAnyH_take (i := 12) (v := undef) rfl (by kernel_rfl) (by kernel_rfl) (by kernel_rfl) (fun _ _ _ h => h) (Or.inr ⟨by kernel_rfl, rfl⟩) (by assumption) ?_
    refine wpAnyH_take (i := 13) (v := undef) rfl (by kernel_rfl) (by kernel_rfl) (by kernel_rfl) (fun _ _ _ h => h) (Or.inr ⟨by kernel_rfl, rfl⟩) (by assumption) ?_
    refine wpAnyH_ready (rs := [14]) (by kernel_rfl) (by simp) ?_
    refine AllReadyH.cons rfl (fun K hK => ?_) AllReadyH.nil
    go_simp
    refine hK.out _ _ (by assumption) (fun _ => ?_)
    clear hK
    refine wpAnyH_ready (rs := [15]) (by kernel_rfl) (by simp) ?_
    refine AllReadyH.cons rfl (fun K hK => ?_) AllReadyH.nil
    go_simp
    refine hK.out _ _ (by assumption) (fun _ => ?_)
    clear hK
    refine wpAnyH_done (by kernel_rfl) ?_ _
    have HB := T0.below
    clear T0
    go_wp2
    go_ret
    exact ⟨by rw [HR.out]; rfl, by first | exact HB | exact HB.drew⟩
end Go.Proofs.Ytofjlobbohfacaa

/- What a way up and a way to the right cross: the reckoning. -/
namespace Go.Proofs.Ytofjlobbohfacaa
open Go.RowKit
/-- Whether a way straight up from the third point crosses the line between the two. -/
def upB (x y z u v t a b c : Int) : Bool := if cmpI (u * z) (x * t) < 0 then decide (cmpI (u * c) (a * t) ≤ 0) && decide (cmpI (a * z) (x * c) < 0) && decide (turnI u v t x y z a b c < 0) else decide (cmpI (x * c) (a * z) ≤ 0) && decide (cmpI (a * t) (u * c) < 0) && decide (turnI x y z u v t a b c < 0)
/-- Whether a way straight to the right crosses it. -/
def ctB (x y z u v t a b c : Int) : Bool := if cmpI (v * z) (y * t) < 0 then decide (cmpI (v * c) (b * t) ≤ 0) && decide (cmpI (b * z) (y * c) < 0) && decide (0 < turnI u v t x y z a b c) else decide (cmpI (y * c) (b * z) ≤ 0) && decide (cmpI (b * t) (v * c) < 0) && decide (0 < turnI x y z u v t a b c)
/-- Whether a point lies to the right of another one and above it. -/
def qdB (x y z a b c : Int) : Bool := decide (0 < x * c - a * z) && decide (0 < y * c - b * z)
theorem cmpI_neg_iff (a b : Int) : cmpI a b < 0 ↔ a < b := by
  rcases cmpI_val a b with ⟨h, e⟩ | ⟨h, e⟩ | ⟨h, e⟩ <;> rw [e] <;> omega
theorem cmpI_le_iff (a b : Int) : cmpI a b ≤ 0 ↔ a ≤ b := by
  rcases cmpI_val a b with ⟨h, e⟩ | ⟨h, e⟩ | ⟨h, e⟩ <;> rw [e] <;> omega
theorem cmpI_pos_iff (a b : Int) : 0 < cmpI a b ↔ b < a := by
  rcases cmpI_val a b with ⟨h, e⟩ | ⟨h, e⟩ | ⟨h, e⟩ <;> rw [e] <;> omega
theorem cmpI_nil_iff (a b : Int) : cmpI a b = 0 ↔ a = b := by
  rcases cmpI_val a b with ⟨h, e⟩ | ⟨h, e⟩ | ⟨h, e⟩ <;> rw [e] <;> omega
/-- Twice the area of the three, as the turn has it. -/
def detI (x y z u v t a b c : Int) : Int := x * (v * c - t * b) - y * (u * c - t * a) + z * (u * b - v * a)
theorem det_swap (x y z u v t a b c : Int) : detI u v t x y z a b c = -detI x y z u v t a b c := by unfold detI; grind
theorem det_parts (x y z u v t a b c : Int) : c * detI x y z u v t a b c = (x * c - a * z) * (v * c - b * t) - (u * c - a * t) * (y * c - b * z) := by unfold detI; grind
theorem up_iff (x y z u v t a b c : Int) (hz : 0 < z) (ht : 0 < t) (hc : 0 < c) : upB x y z u v t a b c = true ↔ (x * c - a * z ≤ 0 ∧ 0 < u * c - a * t ∧ detI x y z u v t a b c < 0) ∨ (u * c - a * t ≤ 0 ∧ 0 < x * c - a * z ∧ 0 < detI x y z u v t a b c) := by
  have e1 : turnI u v t x y z a b c < 0 ↔ 0 < detI x y z u v t a b c := by
    have := det_swap x y z u v t a b c
    unfold turnI
    rw [cmpI_neg_iff]
    unfold detI at *
    omega
  have e2 : turnI x y z u v t a b c < 0 ↔ detI x y z u v t a b c < 0 := by
    unfold turnI
    rw [cmpI_neg_iff]
    rfl
  have f1 : x * c ≤ a * z → a * t < u * c → x * t < u * z := fun h k => (frac_trans hz ht hc h (by omega)).2 (.inr k)
  have f2 : u * c ≤ a * t → a * z < x * c → u * z < x * t := fun h k => (frac_trans ht hz hc h (by omega)).2 (.inr k)
  unfold upB
  split
  · rename_i h
    rw [cmpI_neg_iff] at h
    simp only [Bool.and_eq_true, decide_eq_true_iff, cmpI_le_iff, cmpI_neg_iff, e1]
    omega
  · rename_i h
    rw [cmpI_neg_iff] at h
    simp only [Bool.and_eq_true, decide_eq_true_iff, cmpI_le_iff, cmpI_neg_iff, e2]
    omega
theorem ct_iff (x y z u v t a b c : Int) (hz : 0 < z) (ht : 0 < t) (hc : 0 < c) : ctB x y z u v t a b c = true ↔ (y * c - b * z ≤ 0 ∧ 0 < v * c - b * t ∧ 0 < detI x y z u v t a b c) ∨ (v * c - b * t ≤ 0 ∧ 0 < y * c - b * z ∧ detI x y z u v t a b c < 0) := by
  have e1 : 0 < turnI u v t x y z a b c ↔ detI x y z u v t a b c < 0 := by
    have := det_swap x y z u v t a b c
    unfold turnI
    rw [cmpI_pos_iff]
    unfold detI at *
    omega
  have e2 : 0 < turnI x y z u v t a b c ↔ 0 < detI x y z u v t a b c := by
    unfold turnI
    rw [cmpI_pos_iff]
    rfl
  have f1 : y * c ≤ b * z → b * t < v * c → y * t < v * z := fun h k => (frac_trans hz ht hc h (by omega)).2 (.inr k)
  have f2 : v * c ≤ b * t → b * z < y * c → v * z < y * t := fun h k => (frac_trans ht hz hc h (by omega)).2 (.inr k)
  unfold ctB
  split
  · rename_i h
    rw [cmpI_neg_iff] at h
    simp only [Bool.and_eq_true, decide_eq_true_iff, cmpI_le_iff, cmpI_neg_iff, e1]
    omega
  · rename_i h
    rw [cmpI_neg_iff] at h
    simp only [Bool.and_eq_true, decide_eq_true_iff, cmpI_le_iff, cmpI_neg_iff, e2]
    omega
/-- What lies on the line of the two and not on one side of both lies between them. -/
theorem on_line (x y z u v t a b c : Int) (hz : 0 < z) (ht : 0 < t) (hc : 0 < c) (hd : detI x y z u v t a b c = 0) (h : (x * c - a * z ≤ 0 ∧ 0 < u * c - a * t) ∨ (u * c - a * t ≤ 0 ∧ 0 < x * c - a * z)) : btwS x y z u v t a b c = true := by
  rw [← btw_same x y z u v t a b c hz ht hc, Bool.and_eq_true, decide_eq_true_iff, decide_eq_true_iff]
  have hp := det_parts x y z u v t a b c
  rw [hd, Int.mul_zero] at hp
  refine ⟨by unfold turnI; rw [cmpI_nil_iff]; exact hd, ?_⟩
  unfold ordI
  rcases h with ⟨h1, h2⟩ | ⟨h1, h2⟩
  · rcases Int.lt_or_eq_of_le h1 with h3 | h3
    · rw [cmpI_lt (show x * c < a * z by omega), cmpI_lt (show a * t < u * c by omega)]
      simp
    · rw [h3, Int.zero_mul] at hp
      have h4 : y * c - b * z = 0 := by
        rcases Int.mul_eq_zero.1 (show (u * c - a * t) * (y * c - b * z) = 0 by omega) with h | h <;> omega
      rw [cmpI_eq (show x * c = a * z by omega), if_pos rfl, cmpI_eq (show y * c = b * z by omega), Int.zero_mul]
      exact Int.le_refl _
  · rcases Int.lt_or_eq_of_le h1 with h3 | h3
    · rw [cmpI_gt (show a * z < x * c by omega), cmpI_gt (show u * c < a * t by omega)]
      simp
    · rw [h3, Int.zero_mul] at hp
      have h4 : v * c - b * t = 0 := by
        rcases Int.mul_eq_zero.1 (show (x * c - a * z) * (v * c - b * t) = 0 by omega) with h | h <;> omega
      rw [cmpI_eq (show a * t = u * c by omega), if_pos rfl, cmpI_eq (show b * t = v * c by omega), Int.mul_zero]
      exact Int.le_refl _
theorem sgn_mul (a b : Int) : (0 < a → 0 < b → 0 < a * b) ∧ (a ≤ 0 → 0 < b → a * b ≤ 0) ∧ (0 < a → b ≤ 0 → a * b ≤ 0) ∧ (a ≤ 0 → b ≤ 0 → 0 ≤ a * b) := by
  refine ⟨fun h k => Int.mul_pos h k, fun h k => Int.mul_nonpos_of_nonpos_of_nonneg h (by omega), fun h k => Int.mul_nonpos_of_nonneg_of_nonpos (by omega) k, fun h k => Int.mul_nonneg_of_nonpos_of_nonpos h k⟩
theorem sgn_of {c d r : Int} (hc : 0 < c) (h : c * d = r) : (0 < d ↔ 0 < r) ∧ (d < 0 ↔ r < 0) ∧ (d = 0 ↔ r = 0) := by
  rcases Int.lt_trichotomy d 0 with k | k | k
  · have := Int.mul_neg_of_pos_of_neg hc k
    omega
  · subst k
    rw [Int.mul_zero] at h
    omega
  · have := Int.mul_pos hc k
    omega
/-- A line that does not have the point crosses one of the two ways just when one of its ends lies in the corner between them, and the other does not. -/
theorem edge_same (x y z u v t a b c : Int) (hz : 0 < z) (ht : 0 < t) (hc : 0 < c) (hb : btwS x y z u v t a b c = false) : (upB x y z u v t a b c ^^ ctB x y z u v t a b c) = (qdB x y z a b c ^^ qdB u v t a b c) := by
  have U := up_iff x y z u v t a b c hz ht hc
  have C := ct_iff x y z u v t a b c hz ht hc
  have O := on_line x y z u v t a b c hz ht hc
  rw [hb] at O
  have S := sgn_of hc (det_parts x y z u v t a b c)
  have m1 := sgn_mul (x * c - a * z) (v * c - b * t)
  have m2 := sgn_mul (u * c - a * t) (y * c - b * z)
  unfold qdB
  generalize detI x y z u v t a b c = D at *
  generalize (x * c - a * z) * (v * c - b * t) = P at *
  generalize (u * c - a * t) * (y * c - b * z) = Q at *
  generalize x * c - a * z = U1 at *
  generalize y * c - b * z = U2 at *
  generalize u * c - a * t = V1 at *
  generalize v * c - b * t = V2 at *
  generalize upB x y z u v t a b c = up at *
  generalize ctB x y z u v t a b c = ct at *
  by_cases h1 : 0 < U1 <;> by_cases h2 : 0 < U2 <;> by_cases h3 : 0 < V1 <;> by_cases h4 : 0 < V2 <;> simp only [h1, h2, h3, h4, decide_true, decide_false] <;> cases up <;> cases ct <;> first | rfl | (exfalso; simp only [Bool.false_eq_true, false_iff, true_iff, imp_false] at U C O; omega)
/-- Whether the point lies on one of the first lines of a loop. -/
def onM (m : Nat) (q : Nat → Int × Int × Int) (a b c : Int) : Nat → Bool
  | 0 => false
  | d + 1 => onM m q a b c d || btwS (q d).1 (q d).2.1 (q d).2.2 (q ((d + 1) % m)).1 (q ((d + 1) % m)).2.1 (q ((d + 1) % m)).2.2 a b c
/-- Whether a way to the right crosses an odd number of them. -/
def paM (m : Nat) (q : Nat → Int × Int × Int) (a b c : Int) : Nat → Bool
  | 0 => false
  | d + 1 => paM m q a b c d ^^ ctB (q d).1 (q d).2.1 (q d).2.2 (q ((d + 1) % m)).1 (q ((d + 1) % m)).2.1 (q ((d + 1) % m)).2.2 a b c
/-- The place ahead of one in a loop. -/
def pvN (m : Nat) : Nat → Nat
  | 0 => m - 1
  | d + 1 => d
def onI (m : Nat) (q : Nat → Int × Int × Int) (a b c : Int) : Nat → Bool
  | 0 => false
  | d + 1 => onI m q a b c d || btwS (q (pvN m d)).1 (q (pvN m d)).2.1 (q (pvN m d)).2.2 (q d).1 (q d).2.1 (q d).2.2 a b c
def paI (m : Nat) (q : Nat → Int × Int × Int) (a b c : Int) : Nat → Bool
  | 0 => false
  | d + 1 => paI m q a b c d ^^ upB (q (pvN m d)).1 (q (pvN m d)).2.1 (q (pvN m d)).2.2 (q d).1 (q d).2.1 (q d).2.2 a b c
def paC (m : Nat) (q : Nat → Int × Int × Int) (a b c : Int) : Nat → Bool
  | 0 => false
  | d + 1 => paC m q a b c d ^^ ctB (q (pvN m d)).1 (q (pvN m d)).2.1 (q (pvN m d)).2.2 (q d).1 (q d).2.1 (q d).2.2 a b c
theorem on_turned (m : Nat) (q : Nat → Int × Int × Int) (a b c : Int) (d : Nat) (hd : d < m) : onI m q a b c (d + 1) = (btwS (q (m - 1)).1 (q (m - 1)).2.1 (q (m - 1)).2.2 (q 0).1 (q 0).2.1 (q 0).2.2 a b c || onM m q a b c d) := by
  induction d with
  | zero => simp [onI, onM, pvN]
  | succ k ih =>
    rw [onI, ih (by omega), onM, Nat.mod_eq_of_lt hd, pvN, Bool.or_assoc]
theorem pa_turned (m : Nat) (q : Nat → Int × Int × Int) (a b c : Int) (d : Nat) (hd : d < m) : paC m q a b c (d + 1) = (ctB (q (m - 1)).1 (q (m - 1)).2.1 (q (m - 1)).2.2 (q 0).1 (q 0).2.1 (q 0).2.2 a b c ^^ paM m q a b c d) := by
  induction d with
  | zero => simp [paC, paM, pvN]
  | succ k ih =>
    rw [paC, ih (by omega), paM, Nat.mod_eq_of_lt hd, pvN, Bool.xor_assoc]
theorem on_all (m : Nat) (q : Nat → Int × Int × Int) (a b c : Int) (hm : 0 < m) : onI m q a b c m = onM m q a b c m := by
  obtain ⟨k, rfl⟩ : ∃ k, m = k + 1 := ⟨m - 1, by omega⟩
  rw [on_turned (k + 1) q a b c k (by omega), onM, Nat.mod_self, Bool.or_comm]
  rfl
theorem pa_all (m : Nat) (q : Nat → Int × Int × Int) (a b c : Int) (hm : 0 < m) : paC m q a b c m = paM m q a b c m := by
  obtain ⟨k, rfl⟩ : ∃ k, m = k + 1 := ⟨m - 1, by omega⟩
  rw [pa_turned (k + 1) q a b c k (by omega), paM, Nat.mod_self, Bool.xor_comm]
  rfl
theorem pa_step (m : Nat) (q : Nat → Int × Int × Int) (a b c : Int) (hc : 0 < c) (hq : ∀ k, k < m → 0 < (q k).2.2) (d : Nat) (hd : d < m) (ho : onI m q a b c (d + 1) = false) : paI m q a b c (d + 1) = (paC m q a b c (d + 1) ^^ (qdB (q (m - 1)).1 (q (m - 1)).2.1 (q (m - 1)).2.2 a b c ^^ qdB (q d).1 (q d).2.1 (q d).2.2 a b c)) := by
  induction d with
  | zero =>
    have E := edge_same (q (m - 1)).1 (q (m - 1)).2.1 (q (m - 1)).2.2 (q 0).1 (q 0).2.1 (q 0).2.2 a b c (hq _ (by omega)) (hq _ (by omega)) hc (by simpa [onI, pvN] using ho)
    rw [← E, paI, paI, paC, paC, pvN]
    generalize upB (q (m - 1)).1 (q (m - 1)).2.1 (q (m - 1)).2.2 (q 0).1 (q 0).2.1 (q 0).2.2 a b c = F at *
    generalize ctB (q (m - 1)).1 (q (m - 1)).2.1 (q (m - 1)).2.2 (q 0).1 (q 0).2.1 (q 0).2.2 a b c = G at *
    cases F <;> cases G <;> rfl
  | succ k ih =>
    rw [onI] at ho
    simp only [Bool.or_eq_false_iff] at ho
    have E := edge_same (q k).1 (q k).2.1 (q k).2.2 (q (k + 1)).1 (q (k + 1)).2.1 (q (k + 1)).2.2 a b c (hq _ (by omega)) (hq _ (by omega)) hc ho.2
    have I := ih (by omega) ho.1
    rw [paI, paC, I]
    rw [show pvN m (k + 1) = k from rfl]
    generalize paC m q a b c (k + 1) = A at *
    generalize qdB (q (m - 1)).1 (q (m - 1)).2.1 (q (m - 1)).2.2 a b c = B at *
    generalize qdB (q k).1 (q k).2.1 (q k).2.2 a b c = C at *
    generalize qdB (q (k + 1)).1 (q (k + 1)).2.1 (q (k + 1)).2.2 a b c = D at *
    generalize upB (q k).1 (q k).2.1 (q k).2.2 (q (k + 1)).1 (q (k + 1)).2.1 (q (k + 1)).2.2 a b c = F at *
    generalize ctB (q k).1 (q k).2.1 (q k).2.2 (q (k + 1)).1 (q (k + 1)).2.1 (q (k + 1)).2.2 a b c = G at *
    clear I ih ho
    revert E
    cases A <;> cases B <;> cases C <;> cases D <;> cases F <;> cases G <;> simp
/-- Both ways cross a loop alike. -/
theorem pa_same (m : Nat) (q : Nat → Int × Int × Int) (a b c : Int) (hm : 0 < m) (hc : 0 < c) (hq : ∀ k, k < m → 0 < (q k).2.2) (ho : onM m q a b c m = false) : paI m q a b c m = paM m q a b c m := by
  rw [← pa_all m q a b c hm]
  rw [← on_all m q a b c hm] at ho
  obtain ⟨k, rfl⟩ : ∃ k, m = k + 1 := ⟨m - 1, by omega⟩
  rw [pa_step (k + 1) q a b c hc hq k (by omega) ho, Nat.add_sub_cancel, Bool.xor_self, Bool.xor_false]
end Go.Proofs.Ytofjlobbohfacaa

/- Whether a way straight up crosses a line: the program's walk. -/
namespace Go.Proofs.Ytofjlobbohfacaa
open Go.RowKit
theorem swap12 {x y z u v t a b c : Int} {w W : World} (T0 : ArgsB w W [[.int .u64 (ww3 x), .int .u64 (ww2 x), .int .u64 (ww1 x), .int .u64 (ww0 x), .int .u64 (ww3 y), .int .u64 (ww2 y), .int .u64 (ww1 y), .int .u64 (ww0 y), .int .u64 (ww3 z), .int .u64 (ww2 z), .int .u64 (ww1 z), .int .u64 (ww0 z)], [.int .u64 (ww3 u), .int .u64 (ww2 u), .int .u64 (ww1 u), .int .u64 (ww0 u), .int .u64 (ww3 v), .int .u64 (ww2 v), .int .u64 (ww1 v), .int .u64 (ww0 v), .int .u64 (ww3 t), .int .u64 (ww2 t), .int .u64 (ww1 t), .int .u64 (ww0 t)], [.int .u64 (ww3 a), .int .u64 (ww2 a), .int .u64 (ww1 a), .int .u64 (ww0 a), .int .u64 (ww3 b), .int .u64 (ww2 b), .int .u64 (ww1 b), .int .u64 (ww0 b), .int .u64 (ww3 c), .int .u64 (ww2 c), .int .u64 (ww1 c), .int .u64 (ww0 c)]]) : ArgsB w ((((((((((((((((((((((((W.setCell ⟨w.heap.size, 0, none⟩ (.int .u64 (ww3 u))).setCell ⟨w.heap.size, 1, none⟩ (.int .u64 (ww2 u))).setCell ⟨w.heap.size, 2, none⟩ (.int .u64 (ww1 u))).setCell ⟨w.heap.size, 3, none⟩ (.int .u64 (ww0 u))).setCell ⟨w.heap.size, 4, none⟩ (.int .u64 (ww3 v))).setCell ⟨w.heap.size, 5, none⟩ (.int .u64 (ww2 v))).setCell ⟨w.heap.size, 6, none⟩ (.int .u64 (ww1 v))).setCell ⟨w.heap.size, 7, none⟩ (.int .u64 (ww0 v))).setCell ⟨w.heap.size, 8, none⟩ (.int .u64 (ww3 t))).setCell ⟨w.heap.size, 9, none⟩ (.int .u64 (ww2 t))).setCell ⟨w.heap.size, 10, none⟩ (.int .u64 (ww1 t))).setCell ⟨w.heap.size, 11, none⟩ (.int .u64 (ww0 t))).setCell ⟨w.heap.size + 1, 0, none⟩ (.int .u64 (ww3 x))).setCell ⟨w.heap.size + 1, 1, none⟩ (.int .u64 (ww2 x))).setCell ⟨w.heap.size + 1, 2, none⟩ (.int .u64 (ww1 x))).setCell ⟨w.heap.size + 1, 3, none⟩ (.int .u64 (ww0 x))).setCell ⟨w.heap.size + 1, 4, none⟩ (.int .u64 (ww3 y))).setCell ⟨w.heap.size + 1, 5, none⟩ (.int .u64 (ww2 y))).setCell ⟨w.heap.size + 1, 6, none⟩ (.int .u64 (ww1 y))).setCell ⟨w.heap.size + 1, 7, none⟩ (.int .u64 (ww0 y))).setCell ⟨w.heap.size + 1, 8, none⟩ (.int .u64 (ww3 z))).setCell ⟨w.heap.size + 1, 9, none⟩ (.int .u64 (ww2 z))).setCell ⟨w.heap.size + 1, 10, none⟩ (.int .u64 (ww1 z))).setCell ⟨w.heap.size + 1, 11, none⟩ (.int .u64 (ww0 z))) [[.int .u64 (ww3 u), .int .u64 (ww2 u), .int .u64 (ww1 u), .int .u64 (ww0 u), .int .u64 (ww3 v), .int .u64 (ww2 v), .int .u64 (ww1 v), .int .u64 (ww0 v), .int .u64 (ww3 t), .int .u64 (ww2 t), .int .u64 (ww1 t), .int .u64 (ww0 t)], [.int .u64 (ww3 x), .int .u64 (ww2 x), .int .u64 (ww1 x), .int .u64 (ww0 x), .int .u64 (ww3 y), .int .u64 (ww2 y), .int .u64 (ww1 y), .int .u64 (ww0 y), .int .u64 (ww3 z), .int .u64 (ww2 z), .int .u64 (ww1 z), .int .u64 (ww0 z)], [.int .u64 (ww3 a), .int .u64 (ww2 a), .int .u64 (ww1 a), .int .u64 (ww0 a), .int .u64 (ww3 b), .int .u64 (ww2 b), .int .u64 (ww1 b), .int .u64 (ww0 b), .int .u64 (ww3 c), .int .u64 (ww2 c), .int .u64 (ww1 c), .int .u64 (ww0 c)]] := by
  have X0 : Blk W w.heap.size [.int .u64 (ww3 x), .int .u64 (ww2 x), .int .u64 (ww1 x), .int .u64 (ww0 x), .int .u64 (ww3 y), .int .u64 (ww2 y), .int .u64 (ww1 y), .int .u64 (ww0 y), .int .u64 (ww3 z), .int .u64 (ww2 z), .int .u64 (ww1 z), .int .u64 (ww0 z)] := T0.b 0 rfl
  have Y0 : Blk W (w.heap.size + 1) [.int .u64 (ww3 u), .int .u64 (ww2 u), .int .u64 (ww1 u), .int .u64 (ww0 u), .int .u64 (ww3 v), .int .u64 (ww2 v), .int .u64 (ww1 v), .int .u64 (ww0 v), .int .u64 (ww3 t), .int .u64 (ww2 t), .int .u64 (ww1 t), .int .u64 (ww0 t)] := T0.b 1 rfl
  have Z0 : Blk W (w.heap.size + 2) [.int .u64 (ww3 a), .int .u64 (ww2 a), .int .u64 (ww1 a), .int .u64 (ww0 a), .int .u64 (ww3 b), .int .u64 (ww2 b), .int .u64 (ww1 b), .int .u64 (ww0 b), .int .u64 (ww3 c), .int .u64 (ww2 c), .int .u64 (ww1 c), .int .u64 (ww0 c)] := T0.b 2 rfl
  have X1 := ((((((((((((X0.setI 0 (by simp) (.int .u64 (ww3 u))).setI 1 (by simp) (.int .u64 (ww2 u))).setI 2 (by simp) (.int .u64 (ww1 u))).setI 3 (by simp) (.int .u64 (ww0 u))).setI 4 (by simp) (.int .u64 (ww3 v))).setI 5 (by simp) (.int .u64 (ww2 v))).setI 6 (by simp) (.int .u64 (ww1 v))).setI 7 (by simp) (.int .u64 (ww0 v))).setI 8 (by simp) (.int .u64 (ww3 t))).setI 9 (by simp) (.int .u64 (ww2 t))).setI 10 (by simp) (.int .u64 (ww1 t))).setI 11 (by simp) (.int .u64 (ww0 t)))
  simp only [List.set_cons_zero, List.set_cons_succ] at X1
  have X2 := ((((((((((((X1.setO (p := ⟨w.heap.size + 1, 0, none⟩) (by show w.heap.size ≠ w.heap.size + 1; omega) (.int .u64 (ww3 x))).setO (p := ⟨w.heap.size + 1, 1, none⟩) (by show w.heap.size ≠ w.heap.size + 1; omega) (.int .u64 (ww2 x))).setO (p := ⟨w.heap.size + 1, 2, none⟩) (by show w.heap.size ≠ w.heap.size + 1; omega) (.int .u64 (ww1 x))).setO (p := ⟨w.heap.size + 1, 3, none⟩) (by show w.heap.size ≠ w.heap.size + 1; omega) (.int .u64 (ww0 x))).setO (p := ⟨w.heap.size + 1, 4, none⟩) (by show w.heap.size ≠ w.heap.size + 1; omega) (.int .u64 (ww3 y))).setO (p := ⟨w.heap.size + 1, 5, none⟩) (by show w.heap.size ≠ w.heap.size + 1; omega) (.int .u64 (ww2 y))).setO (p := ⟨w.heap.size + 1, 6, none⟩) (by show w.heap.size ≠ w.heap.size + 1; omega) (.int .u64 (ww1 y))).setO (p := ⟨w.heap.size + 1, 7, none⟩) (by show w.heap.size ≠ w.heap.size + 1; omega) (.int .u64 (ww0 y))).setO (p := ⟨w.heap.size + 1, 8, none⟩) (by show w.heap.size ≠ w.heap.size + 1; omega) (.int .u64 (ww3 z))).setO (p := ⟨w.heap.size + 1, 9, none⟩) (by show w.heap.size ≠ w.heap.size + 1; omega) (.int .u64 (ww2 z))).setO (p := ⟨w.heap.size + 1, 10, none⟩) (by show w.heap.size ≠ w.heap.size + 1; omega) (.int .u64 (ww1 z))).setO (p := ⟨w.heap.size + 1, 11, none⟩) (by show w.heap.size ≠ w.heap.size + 1; omega) (.int .u64 (ww0 z)))
  have Y1 := ((((((((((((Y0.setO (p := ⟨w.heap.size, 0, none⟩) (by show w.heap.size + 1 ≠ w.heap.size; omega) (.int .u64 (ww3 u))).setO (p := ⟨w.heap.size, 1, none⟩) (by show w.heap.size + 1 ≠ w.heap.size; omega) (.int .u64 (ww2 u))).setO (p := ⟨w.heap.size, 2, none⟩) (by show w.heap.size + 1 ≠ w.heap.size; omega) (.int .u64 (ww1 u))).setO (p := ⟨w.heap.size, 3, none⟩) (by show w.heap.size + 1 ≠ w.heap.size; omega) (.int .u64 (ww0 u))).setO (p := ⟨w.heap.size, 4, none⟩) (by show w.heap.size + 1 ≠ w.heap.size; omega) (.int .u64 (ww3 v))).setO (p := ⟨w.heap.size, 5, none⟩) (by show w.heap.size + 1 ≠ w.heap.size; omega) (.int .u64 (ww2 v))).setO (p := ⟨w.heap.size, 6, none⟩) (by show w.heap.size + 1 ≠ w.heap.size; omega) (.int .u64 (ww1 v))).setO (p := ⟨w.heap.size, 7, none⟩) (by show w.heap.size + 1 ≠ w.heap.size; omega) (.int .u64 (ww0 v))).setO (p := ⟨w.heap.size, 8, none⟩) (by show w.heap.size + 1 ≠ w.heap.size; omega) (.int .u64 (ww3 t))).setO (p := ⟨w.heap.size, 9, none⟩) (by show w.heap.size + 1 ≠ w.heap.size; omega) (.int .u64 (ww2 t))).setO (p := ⟨w.heap.size, 10, none⟩) (by show w.heap.size + 1 ≠ w.heap.size; omega) (.int .u64 (ww1 t))).setO (p := ⟨w.heap.size, 11, none⟩) (by show w.heap.size + 1 ≠ w.heap.size; omega) (.int .u64 (ww0 t)))
  have Y2 := ((((((((((((Y1.setI 0 (by simp) (.int .u64 (ww3 x))).setI 1 (by simp) (.int .u64 (ww2 x))).setI 2 (by simp) (.int .u64 (ww1 x))).setI 3 (by simp) (.int .u64 (ww0 x))).setI 4 (by simp) (.int .u64 (ww3 y))).setI 5 (by simp) (.int .u64 (ww2 y))).setI 6 (by simp) (.int .u64 (ww1 y))).setI 7 (by simp) (.int .u64 (ww0 y))).setI 8 (by simp) (.int .u64 (ww3 z))).setI 9 (by simp) (.int .u64 (ww2 z))).setI 10 (by simp) (.int .u64 (ww1 z))).setI 11 (by simp) (.int .u64 (ww0 z)))
  simp only [List.set_cons_zero, List.set_cons_succ] at Y2
  have Z1 := ((((((((((((Z0.setO (p := ⟨w.heap.size, 0, none⟩) (by show w.heap.size + 2 ≠ w.heap.size; omega) (.int .u64 (ww3 u))).setO (p := ⟨w.heap.size, 1, none⟩) (by show w.heap.size + 2 ≠ w.heap.size; omega) (.int .u64 (ww2 u))).setO (p := ⟨w.heap.size, 2, none⟩) (by show w.heap.size + 2 ≠ w.heap.size; omega) (.int .u64 (ww1 u))).setO (p := ⟨w.heap.size, 3, none⟩) (by show w.heap.size + 2 ≠ w.heap.size; omega) (.int .u64 (ww0 u))).setO (p := ⟨w.heap.size, 4, none⟩) (by show w.heap.size + 2 ≠ w.heap.size; omega) (.int .u64 (ww3 v))).setO (p := ⟨w.heap.size, 5, none⟩) (by show w.heap.size + 2 ≠ w.heap.size; omega) (.int .u64 (ww2 v))).setO (p := ⟨w.heap.size, 6, none⟩) (by show w.heap.size + 2 ≠ w.heap.size; omega) (.int .u64 (ww1 v))).setO (p := ⟨w.heap.size, 7, none⟩) (by show w.heap.size + 2 ≠ w.heap.size; omega) (.int .u64 (ww0 v))).setO (p := ⟨w.heap.size, 8, none⟩) (by show w.heap.size + 2 ≠ w.heap.size; omega) (.int .u64 (ww3 t))).setO (p := ⟨w.heap.size, 9, none⟩) (by show w.heap.size + 2 ≠ w.heap.size; omega) (.int .u64 (ww2 t))).setO (p := ⟨w.heap.size, 10, none⟩) (by show w.heap.size + 2 ≠ w.heap.size; omega) (.int .u64 (ww1 t))).setO (p := ⟨w.heap.size, 11, none⟩) (by show w.heap.size + 2 ≠ w.heap.size; omega) (.int .u64 (ww0 t)))
  have Z2 := ((((((((((((Z1.setO (p := ⟨w.heap.size + 1, 0, none⟩) (by show w.heap.size + 2 ≠ w.heap.size + 1; omega) (.int .u64 (ww3 x))).setO (p := ⟨w.heap.size + 1, 1, none⟩) (by show w.heap.size + 2 ≠ w.heap.size + 1; omega) (.int .u64 (ww2 x))).setO (p := ⟨w.heap.size + 1, 2, none⟩) (by show w.heap.size + 2 ≠ w.heap.size + 1; omega) (.int .u64 (ww1 x))).setO (p := ⟨w.heap.size + 1, 3, none⟩) (by show w.heap.size + 2 ≠ w.heap.size + 1; omega) (.int .u64 (ww0 x))).setO (p := ⟨w.heap.size + 1, 4, none⟩) (by show w.heap.size + 2 ≠ w.heap.size + 1; omega) (.int .u64 (ww3 y))).setO (p := ⟨w.heap.size + 1, 5, none⟩) (by show w.heap.size + 2 ≠ w.heap.size + 1; omega) (.int .u64 (ww2 y))).setO (p := ⟨w.heap.size + 1, 6, none⟩) (by show w.heap.size + 2 ≠ w.heap.size + 1; omega) (.int .u64 (ww1 y))).setO (p := ⟨w.heap.size + 1, 7, none⟩) (by show w.heap.size + 2 ≠ w.heap.size + 1; omega) (.int .u64 (ww0 y))).setO (p := ⟨w.heap.size + 1, 8, none⟩) (by show w.heap.size + 2 ≠ w.heap.size + 1; omega) (.int .u64 (ww3 z))).setO (p := ⟨w.heap.size + 1, 9, none⟩) (by show w.heap.size + 2 ≠ w.heap.size + 1; omega) (.int .u64 (ww2 z))).setO (p := ⟨w.heap.size + 1, 10, none⟩) (by show w.heap.size + 2 ≠ w.heap.size + 1; omega) (.int .u64 (ww1 z))).setO (p := ⟨w.heap.size + 1, 11, none⟩) (by show w.heap.size + 2 ≠ w.heap.size + 1; omega) (.int .u64 (ww0 z)))
  refine ⟨?_, fun j vs hj => ?_⟩
  · repeat' (refine Below.setCell ?_ (by simp) _)
    exact T0.below
  · match j, hj with
    | 0, hj => cases hj; exact X2
    | 1, hj => cases hj; exact Y2
    | 2, hj => cases hj; exact Z2
    | j + 3, hj => simp at hj
theorem otherSide_det (s : Int) (w : World) : Calls Try.prog 33 #[.int .i64 s] w (VP (.int .i64 (if s = 1 then -1 else 1)) w) := by
  by_cases h : s = 1
  · subst h
    go_enter Try.func33, Try.ntmps33
    go_wp2
    go_ret
    exact ⟨rfl, Below.refl _ _⟩
  · have h' : (s == 1) = false := beq_eq_false_iff_ne.2 h
    rw [if_neg h]
    go_enter Try.func33, Try.ntmps33
    go_wp2
    go_ret
    exact ⟨rfl, Below.refl _ _⟩
set_option maxRecDepth 100000 in
set_option maxHeartbeats 8000000 in
theorem crossed_det (x y z u v t a b c : Int) (sx : small x = true) (sy : small y = true) (sz : small z = true) (su : small u = true) (sv : small v = true) (st : small t = true) (sa : small a = true) (sb : small b = true) (sc : small c = true) (w : World) : Calls Try.prog 67 #[PV x y z, PV u v t, PV a b c] w (VP (.bool (upB x y z u v t a b c)) w) := by
  have T0 : ArgsB w (((w.alloc (.cells #[.int .u64 (ww3 x), .int .u64 (ww2 x), .int .u64 (ww1 x), .int .u64 (ww0 x), .int .u64 (ww3 y), .int .u64 (ww2 y), .int .u64 (ww1 y), .int .u64 (ww0 y), .int .u64 (ww3 z), .int .u64 (ww2 z), .int .u64 (ww1 z), .int .u64 (ww0 z)] 34)).alloc (.cells #[.int .u64 (ww3 u), .int .u64 (ww2 u), .int .u64 (ww1 u), .int .u64 (ww0 u), .int .u64 (ww3 v), .int .u64 (ww2 v), .int .u64 (ww1 v), .int .u64 (ww0 v), .int .u64 (ww3 t), .int .u64 (ww2 t), .int .u64 (ww1 t), .int .u64 (ww0 t)] 34)).alloc (.cells #[.int .u64 (ww3 a), .int .u64 (ww2 a), .int .u64 (ww1 a), .int .u64 (ww0 a), .int .u64 (ww3 b), .int .u64 (ww2 b), .int .u64 (ww1 b), .int .u64 (ww0 b), .int .u64 (ww3 c), .int .u64 (ww2 c), .int .u64 (ww1 c), .int .u64 (ww0 c)] 34)) [[.int .u64 (ww3 x), .int .u64 (ww2 x), .int .u64 (ww1 x), .int .u64 (ww0 x), .int .u64 (ww3 y), .int .u64 (ww2 y), .int .u64 (ww1 y), .int .u64 (ww0 y), .int .u64 (ww3 z), .int .u64 (ww2 z), .int .u64 (ww1 z), .int .u64 (ww0 z)], [.int .u64 (ww3 u), .int .u64 (ww2 u), .int .u64 (ww1 u), .int .u64 (ww0 u), .int .u64 (ww3 v), .int .u64 (ww2 v), .int .u64 (ww1 v), .int .u64 (ww0 v), .int .u64 (ww3 t), .int .u64 (ww2 t), .int .u64 (ww1 t), .int .u64 (ww0 t)], [.int .u64 (ww3 a), .int .u64 (ww2 a), .int .u64 (ww1 a), .int .u64 (ww0 a), .int .u64 (ww3 b), .int .u64 (ww2 b), .int .u64 (ww1 b), .int .u64 (ww0 b), .int .u64 (ww3 c), .int .u64 (ww2 c), .int .u64 (ww1 c), .int .u64 (ww0 c)]] := ar3 _ _ _ _ _ _ w
  have C1 := byX_det u v t x y z su st sx sz
  go_enter Try.func67, Try.ntmps67
  go_wp2_with fail
  generalize (((w.alloc (.cells #[.int .u64 (ww3 x), .int .u64 (ww2 x), .int .u64 (ww1 x), .int .u64 (ww0 x), .int .u64 (ww3 y), .int .u64 (ww2 y), .int .u64 (ww1 y), .int .u64 (ww0 y), .int .u64 (ww3 z), .int .u64 (ww2 z), .int .u64 (ww1 z), .int .u64 (ww0 z)] 34)).alloc (.cells #[.int .u64 (ww3 u), .int .u64 (ww2 u), .int .u64 (ww1 u), .int .u64 (ww0 u), .int .u64 (ww3 v), .int .u64 (ww2 v), .int .u64 (ww1 v), .int .u64 (ww0 v), .int .u64 (ww3 t), .int .u64 (ww2 t), .int .u64 (ww1 t), .int .u64 (ww0 t)] 34)).alloc (.cells #[.int .u64 (ww3 a), .int .u64 (ww2 a), .int .u64 (ww1 a), .int .u64 (ww0 a), .int .u64 (ww3 b), .int .u64 (ww2 b), .int .u64 (ww1 b), .int .u64 (ww0 b), .int .u64 (ww3 c), .int .u64 (ww2 c), .int .u64 (ww1 c), .int .u64 (ww0 c)] 34)) = W at *
  refine (C1 _).mono ?_
  rintro e w1 ⟨rfl, hB⟩
  replace T0 := T0.step hB
  clear hB C1
  by_cases h1 : cmpI (u * z) (x * t) < 0
  · have d1 : decide (cmpI (u * z) (x * t) < 0) = true := decide_eq_true h1
    have HC : (if cmpI (u * z) (x * t) < 0 then decide (cmpI (u * c) (a * t) ≤ 0) && decide (cmpI (a * z) (x * c) < 0) && decide (turnI u v t x y z a b c < 0) else decide (cmpI (x * c) (a * z) ≤ 0) && decide (cmpI (a * t) (u * c) < 0) && decide (turnI x y z u v t a b c < 0)) = (decide (cmpI (u * c) (a * t) ≤ 0) && decide (cmpI (a * z) (x * c) < 0) && decide (turnI u v t x y z a b c < 0)) := if_pos h1
    have X0 : Blk _ w.heap.size _ := T0.b 0 rfl
    have Y0 : Blk _ (w.heap.size + 1) _ := T0.b 1 rfl
    have p0 := X0.c 0 rfl; have pf0 := X0.f 0 rfl; have q0 := Y0.c 0 rfl; have qf0 := Y0.f 0 rfl; have p1 := X0.c 1 rfl; have pf1 := X0.f 1 rfl; have q1 := Y0.c 1 rfl; have qf1 := Y0.f 1 rfl; have p2 := X0.c 2 rfl; have pf2 := X0.f 2 rfl; have q2 := Y0.c 2 rfl; have qf2 := Y0.f 2 rfl; have p3 := X0.c 3 rfl; have pf3 := X0.f 3 rfl; have q3 := Y0.c 3 rfl; have qf3 := Y0.f 3 rfl; have p4 := X0.c 4 rfl; have pf4 := X0.f 4 rfl; have q4 := Y0.c 4 rfl; have qf4 := Y0.f 4 rfl; have p5 := X0.c 5 rfl; have pf5 := X0.f 5 rfl; have q5 := Y0.c 5 rfl; have qf5 := Y0.f 5 rfl; have p6 := X0.c 6 rfl; have pf6 := X0.f 6 rfl; have q6 := Y0.c 6 rfl; have qf6 := Y0.f 6 rfl; have p7 := X0.c 7 rfl; have pf7 := X0.f 7 rfl; have q7 := Y0.c 7 rfl; have qf7 := Y0.f 7 rfl; have p8 := X0.c 8 rfl; have pf8 := X0.f 8 rfl; have q8 := Y0.c 8 rfl; have qf8 := Y0.f 8 rfl; have p9 := X0.c 9 rfl; have pf9 := X0.f 9 rfl; have q9 := Y0.c 9 rfl; have qf9 := Y0.f 9 rfl; have p10 := X0.c 10 rfl; have pf10 := X0.f 10 rfl; have q10 := Y0.c 10 rfl; have qf10 := Y0.f 10 rfl; have p11 := X0.c 11 rfl; have pf11 := X0.f 11 rfl; have q11 := Y0.c 11 rfl; have qf11 := Y0.f 11 rfl
    have xl := X0.lt; have yl := Y0.lt
    go_upto_region 3 with fail
    clear p0 pf0 q0 qf0 p1 pf1 q1 qf1 p2 pf2 q2 qf2 p3 pf3 q3 qf3 p4 pf4 q4 qf4 p5 pf5 q5 qf5 p6 pf6 q6 qf6 p7 pf7 q7 qf7 p8 pf8 q8 qf8 p9 pf9 q9 qf9 p10 pf10 q10 qf10 p11 pf11 q11 qf11 xl yl X0 Y0
    replace T0 := swap12 T0
    generalize ((((((((((((((((((((((((w1.setCell ⟨w.heap.size, 0, none⟩ (.int .u64 (ww3 u))).setCell ⟨w.heap.size, 1, none⟩ (.int .u64 (ww2 u))).setCell ⟨w.heap.size, 2, none⟩ (.int .u64 (ww1 u))).setCell ⟨w.heap.size, 3, none⟩ (.int .u64 (ww0 u))).setCell ⟨w.heap.size, 4, none⟩ (.int .u64 (ww3 v))).setCell ⟨w.heap.size, 5, none⟩ (.int .u64 (ww2 v))).setCell ⟨w.heap.size, 6, none⟩ (.int .u64 (ww1 v))).setCell ⟨w.heap.size, 7, none⟩ (.int .u64 (ww0 v))).setCell ⟨w.heap.size, 8, none⟩ (.int .u64 (ww3 t))).setCell ⟨w.heap.size, 9, none⟩ (.int .u64 (ww2 t))).setCell ⟨w.heap.size, 10, none⟩ (.int .u64 (ww1 t))).setCell ⟨w.heap.size, 11, none⟩ (.int .u64 (ww0 t))).setCell ⟨w.heap.size + 1, 0, none⟩ (.int .u64 (ww3 x))).setCell ⟨w.heap.size + 1, 1, none⟩ (.int .u64 (ww2 x))).setCell ⟨w.heap.size + 1, 2, none⟩ (.int .u64 (ww1 x))).setCell ⟨w.heap.size + 1, 3, none⟩ (.int .u64 (ww0 x))).setCell ⟨w.heap.size + 1, 4, none⟩ (.int .u64 (ww3 y))).setCell ⟨w.heap.size + 1, 5, none⟩ (.int .u64 (ww2 y))).setCell ⟨w.heap.size + 1, 6, none⟩ (.int .u64 (ww1 y))).setCell ⟨w.heap.size + 1, 7, none⟩ (.int .u64 (ww0 y))).setCell ⟨w.heap.size + 1, 8, none⟩ (.int .u64 (ww3 z))).setCell ⟨w.heap.size + 1, 9, none⟩ (.int .u64 (ww2 z))).setCell ⟨w.heap.size + 1, 10, none⟩ (.int .u64 (ww1 z))).setCell ⟨w.heap.size + 1, 11, none⟩ (.int .u64 (ww0 z))) = W1 at *
    have C2 := byX_det u v t a b c su st sa sc
    have C3 := byX_det a b c x y z sa sc sx sz
    have C4 := turn_det u v t x y z a b c su sv st sx sy sz sa sb sc
    rw [turn_same] at C4
    have X0 : Blk _ w.heap.size _ := T0.b 0 rfl; have Y0 : Blk _ (w.heap.size + 1) _ := T0.b 1 rfl; have Z0 : Blk _ (w.heap.size + 1 + 1) _ := T0.b 2 rfl; have p0 := X0.c 0 rfl; have q0 := Y0.c 0 rfl; have r0 := Z0.c 0 rfl; have p1 := X0.c 1 rfl; have q1 := Y0.c 1 rfl; have r1 := Z0.c 1 rfl; have p2 := X0.c 2 rfl; have q2 := Y0.c 2 rfl; have r2 := Z0.c 2 rfl; have p3 := X0.c 3 rfl; have q3 := Y0.c 3 rfl; have r3 := Z0.c 3 rfl; have p4 := X0.c 4 rfl; have q4 := Y0.c 4 rfl; have r4 := Z0.c 4 rfl; have p5 := X0.c 5 rfl; have q5 := Y0.c 5 rfl; have r5 := Z0.c 5 rfl; have p6 := X0.c 6 rfl; have q6 := Y0.c 6 rfl; have r6 := Z0.c 6 rfl; have p7 := X0.c 7 rfl; have q7 := Y0.c 7 rfl; have r7 := Z0.c 7 rfl; have p8 := X0.c 8 rfl; have q8 := Y0.c 8 rfl; have r8 := Z0.c 8 rfl; have p9 := X0.c 9 rfl; have q9 := Y0.c 9 rfl; have r9 := Z0.c 9 rfl; have p10 := X0.c 10 rfl; have q10 := Y0.c 10 rfl; have r10 := Z0.c 10 rfl; have p11 := X0.c 11 rfl; have q11 := Y0.c 11 rfl; have r11 := Z0.c 11 rfl; clear X0 Y0 Z0
    go_wp2_with fail
    refine (C2 _).mono ?_
    rintro e f1 ⟨rfl, hB⟩
    replace T0 := T0.step hB
    clear hB C2 p0 q0 r0 p1 q1 r1 p2 q2 r2 p3 q3 r3 p4 q4 r4 p5 q5 r5 p6 q6 r6 p7 q7 r7 p8 q8 r8 p9 q9 r9 p10 q10 r10 p11 q11 r11
    by_cases h2 : cmpI (u * c) (a * t) ≤ 0
    · have d2 : decide (cmpI (u * c) (a * t) ≤ 0) = true := decide_eq_true h2
      have X0 : Blk _ w.heap.size _ := T0.b 0 rfl; have Y0 : Blk _ (w.heap.size + 1) _ := T0.b 1 rfl; have Z0 : Blk _ (w.heap.size + 1 + 1) _ := T0.b 2 rfl; have p0 := X0.c 0 rfl; have q0 := Y0.c 0 rfl; have r0 := Z0.c 0 rfl; have p1 := X0.c 1 rfl; have q1 := Y0.c 1 rfl; have r1 := Z0.c 1 rfl; have p2 := X0.c 2 rfl; have q2 := Y0.c 2 rfl; have r2 := Z0.c 2 rfl; have p3 := X0.c 3 rfl; have q3 := Y0.c 3 rfl; have r3 := Z0.c 3 rfl; have p4 := X0.c 4 rfl; have q4 := Y0.c 4 rfl; have r4 := Z0.c 4 rfl; have p5 := X0.c 5 rfl; have q5 := Y0.c 5 rfl; have r5 := Z0.c 5 rfl; have p6 := X0.c 6 rfl; have q6 := Y0.c 6 rfl; have r6 := Z0.c 6 rfl; have p7 := X0.c 7 rfl; have q7 := Y0.c 7 rfl; have r7 := Z0.c 7 rfl; have p8 := X0.c 8 rfl; have q8 := Y0.c 8 rfl; have r8 := Z0.c 8 rfl; have p9 := X0.c 9 rfl; have q9 := Y0.c 9 rfl; have r9 := Z0.c 9 rfl; have p10 := X0.c 10 rfl; have q10 := Y0.c 10 rfl; have r10 := Z0.c 10 rfl; have p11 := X0.c 11 rfl; have q11 := Y0.c 11 rfl; have r11 := Z0.c 11 rfl; clear X0 Y0 Z0
      go_wp2_with fail
      refine (C3 _).mono ?_
      rintro e f2 ⟨rfl, hB⟩
      replace T0 := T0.step hB
      clear hB C3 p0 q0 r0 p1 q1 r1 p2 q2 r2 p3 q3 r3 p4 q4 r4 p5 q5 r5 p6 q6 r6 p7 q7 r7 p8 q8 r8 p9 q9 r9 p10 q10 r10 p11 q11 r11
      by_cases h3 : cmpI (a * z) (x * c) < 0
      · have d3 : decide (cmpI (a * z) (x * c) < 0) = true := decide_eq_true h3
        have X0 : Blk _ w.heap.size _ := T0.b 0 rfl; have Y0 : Blk _ (w.heap.size + 1) _ := T0.b 1 rfl; have Z0 : Blk _ (w.heap.size + 1 + 1) _ := T0.b 2 rfl; have p0 := X0.c 0 rfl; have q0 := Y0.c 0 rfl; have r0 := Z0.c 0 rfl; have p1 := X0.c 1 rfl; have q1 := Y0.c 1 rfl; have r1 := Z0.c 1 rfl; have p2 := X0.c 2 rfl; have q2 := Y0.c 2 rfl; have r2 := Z0.c 2 rfl; have p3 := X0.c 3 rfl; have q3 := Y0.c 3 rfl; have r3 := Z0.c 3 rfl; have p4 := X0.c 4 rfl; have q4 := Y0.c 4 rfl; have r4 := Z0.c 4 rfl; have p5 := X0.c 5 rfl; have q5 := Y0.c 5 rfl; have r5 := Z0.c 5 rfl; have p6 := X0.c 6 rfl; have q6 := Y0.c 6 rfl; have r6 := Z0.c 6 rfl; have p7 := X0.c 7 rfl; have q7 := Y0.c 7 rfl; have r7 := Z0.c 7 rfl; have p8 := X0.c 8 rfl; have q8 := Y0.c 8 rfl; have r8 := Z0.c 8 rfl; have p9 := X0.c 9 rfl; have q9 := Y0.c 9 rfl; have r9 := Z0.c 9 rfl; have p10 := X0.c 10 rfl; have q10 := Y0.c 10 rfl; have r10 := Z0.c 10 rfl; have p11 := X0.c 11 rfl; have q11 := Y0.c 11 rfl; have r11 := Z0.c 11 rfl; clear X0 Y0 Z0
        go_wp2_with fail
        refine (C4 _).mono ?_
        rintro e f3 ⟨rfl, hB⟩
        have HB := (T0.step hB).below
        have HR : Hid (upB x y z u v t a b c = decide (turnI u v t x y z a b c < 0)) := by
          show _ = _
          unfold upB
          rw [HC]
          simp only [h2, h3, decide_true, Bool.true_and]
        clear hB T0 p0 q0 r0 p1 q1 r1 p2 q2 r2 p3 q3 r3 p4 q4 r4 p5 q5 r5 p6 q6 r6 p7 q7 r7 p8 q8 r8 p9 q9 r9 p10 q10 r10 p11 q11 r11 HC h2 h3 C4
        go_wp2
        go_ret
        exact ⟨by rw [HR.out]; rfl, HB⟩
      · have d3 : decide (cmpI (a * z) (x * c) < 0) = false := decide_eq_false h3
        have HR : Hid (upB x y z u v t a b c = false) := by show _ = _; unfold upB; rw [HC]; simp [h3]
        have HB := T0.below
        clear T0 HC h2 h3 C4
        go_wp2
        go_ret
        exact ⟨by rw [HR.out]; rfl, HB⟩
    · have d2 : decide (cmpI (u * c) (a * t) ≤ 0) = false := decide_eq_false h2
      have HR : Hid (upB x y z u v t a b c = false) := by show _ = _; unfold upB; rw [HC]; simp [h2]
      have HB := T0.below
      clear T0 HC h2 C3 C4
      go_wp2
      go_ret
      exact ⟨by rw [HR.out]; rfl, HB⟩
  · have d1 : decide (cmpI (u * z) (x * t) < 0) = false := decide_eq_false h1
    have HC : (if cmpI (u * z) (x * t) < 0 then decide (cmpI (u * c) (a * t) ≤ 0) && decide (cmpI (a * z) (x * c) < 0) && decide (turnI u v t x y z a b c < 0) else decide (cmpI (x * c) (a * z) ≤ 0) && decide (cmpI (a * t) (u * c) < 0) && decide (turnI x y z u v t a b c < 0)) = (decide (cmpI (x * c) (a * z) ≤ 0) && decide (cmpI (a * t) (u * c) < 0) && decide (turnI x y z u v t a b c < 0)) := if_neg h1
    have C2 := byX_det x y z a b c sx sz sa sc
    have C3 := byX_det a b c u v t sa sc su st
    have C4 := turn_det x y z u v t a b c sx sy sz su sv st sa sb sc
    rw [turn_same] at C4
    have X0 : Blk _ w.heap.size _ := T0.b 0 rfl; have Y0 : Blk _ (w.heap.size + 1) _ := T0.b 1 rfl; have Z0 : Blk _ (w.heap.size + 1 + 1) _ := T0.b 2 rfl; have p0 := X0.c 0 rfl; have q0 := Y0.c 0 rfl; have r0 := Z0.c 0 rfl; have p1 := X0.c 1 rfl; have q1 := Y0.c 1 rfl; have r1 := Z0.c 1 rfl; have p2 := X0.c 2 rfl; have q2 := Y0.c 2 rfl; have r2 := Z0.c 2 rfl; have p3 := X0.c 3 rfl; have q3 := Y0.c 3 rfl; have r3 := Z0.c 3 rfl; have p4 := X0.c 4 rfl; have q4 := Y0.c 4 rfl; have r4 := Z0.c 4 rfl; have p5 := X0.c 5 rfl; have q5 := Y0.c 5 rfl; have r5 := Z0.c 5 rfl; have p6 := X0.c 6 rfl; have q6 := Y0.c 6 rfl; have r6 := Z0.c 6 rfl; have p7 := X0.c 7 rfl; have q7 := Y0.c 7 rfl; have r7 := Z0.c 7 rfl; have p8 := X0.c 8 rfl; have q8 := Y0.c 8 rfl; have r8 := Z0.c 8 rfl; have p9 := X0.c 9 rfl; have q9 := Y0.c 9 rfl; have r9 := Z0.c 9 rfl; have p10 := X0.c 10 rfl; have q10 := Y0.c 10 rfl; have r10 := Z0.c 10 rfl; have p11 := X0.c 11 rfl; have q11 := Y0.c 11 rfl; have r11 := Z0.c 11 rfl; clear X0 Y0 Z0
    go_wp2_with fail
    refine (C2 _).mono ?_
    rintro e f1 ⟨rfl, hB⟩
    replace T0 := T0.step hB
    clear hB C2 p0 q0 r0 p1 q1 r1 p2 q2 r2 p3 q3 r3 p4 q4 r4 p5 q5 r5 p6 q6 r6 p7 q7 r7 p8 q8 r8 p9 q9 r9 p10 q10 r10 p11 q11 r11
    by_cases h2 : cmpI (x * c) (a * z) ≤ 0
    · have d2 : decide (cmpI (x * c) (a * z) ≤ 0) = true := decide_eq_true h2
      have X0 : Blk _ w.heap.size _ := T0.b 0 rfl; have Y0 : Blk _ (w.heap.size + 1) _ := T0.b 1 rfl; have Z0 : Blk _ (w.heap.size + 1 + 1) _ := T0.b 2 rfl; have p0 := X0.c 0 rfl; have q0 := Y0.c 0 rfl; have r0 := Z0.c 0 rfl; have p1 := X0.c 1 rfl; have q1 := Y0.c 1 rfl; have r1 := Z0.c 1 rfl; have p2 := X0.c 2 rfl; have q2 := Y0.c 2 rfl; have r2 := Z0.c 2 rfl; have p3 := X0.c 3 rfl; have q3 := Y0.c 3 rfl; have r3 := Z0.c 3 rfl; have p4 := X0.c 4 rfl; have q4 := Y0.c 4 rfl; have r4 := Z0.c 4 rfl; have p5 := X0.c 5 rfl; have q5 := Y0.c 5 rfl; have r5 := Z0.c 5 rfl; have p6 := X0.c 6 rfl; have q6 := Y0.c 6 rfl; have r6 := Z0.c 6 rfl; have p7 := X0.c 7 rfl; have q7 := Y0.c 7 rfl; have r7 := Z0.c 7 rfl; have p8 := X0.c 8 rfl; have q8 := Y0.c 8 rfl; have r8 := Z0.c 8 rfl; have p9 := X0.c 9 rfl; have q9 := Y0.c 9 rfl; have r9 := Z0.c 9 rfl; have p10 := X0.c 10 rfl; have q10 := Y0.c 10 rfl; have r10 := Z0.c 10 rfl; have p11 := X0.c 11 rfl; have q11 := Y0.c 11 rfl; have r11 := Z0.c 11 rfl; clear X0 Y0 Z0
      go_wp2_with fail
      refine (C3 _).mono ?_
      rintro e f2 ⟨rfl, hB⟩
      replace T0 := T0.step hB
      clear hB C3 p0 q0 r0 p1 q1 r1 p2 q2 r2 p3 q3 r3 p4 q4 r4 p5 q5 r5 p6 q6 r6 p7 q7 r7 p8 q8 r8 p9 q9 r9 p10 q10 r10 p11 q11 r11
      by_cases h3 : cmpI (a * t) (u * c) < 0
      · have d3 : decide (cmpI (a * t) (u * c) < 0) = true := decide_eq_true h3
        have X0 : Blk _ w.heap.size _ := T0.b 0 rfl; have Y0 : Blk _ (w.heap.size + 1) _ := T0.b 1 rfl; have Z0 : Blk _ (w.heap.size + 1 + 1) _ := T0.b 2 rfl; have p0 := X0.c 0 rfl; have q0 := Y0.c 0 rfl; have r0 := Z0.c 0 rfl; have p1 := X0.c 1 rfl; have q1 := Y0.c 1 rfl; have r1 := Z0.c 1 rfl; have p2 := X0.c 2 rfl; have q2 := Y0.c 2 rfl; have r2 := Z0.c 2 rfl; have p3 := X0.c 3 rfl; have q3 := Y0.c 3 rfl; have r3 := Z0.c 3 rfl; have p4 := X0.c 4 rfl; have q4 := Y0.c 4 rfl; have r4 := Z0.c 4 rfl; have p5 := X0.c 5 rfl; have q5 := Y0.c 5 rfl; have r5 := Z0.c 5 rfl; have p6 := X0.c 6 rfl; have q6 := Y0.c 6 rfl; have r6 := Z0.c 6 rfl; have p7 := X0.c 7 rfl; have q7 := Y0.c 7 rfl; have r7 := Z0.c 7 rfl; have p8 := X0.c 8 rfl; have q8 := Y0.c 8 rfl; have r8 := Z0.c 8 rfl; have p9 := X0.c 9 rfl; have q9 := Y0.c 9 rfl; have r9 := Z0.c 9 rfl; have p10 := X0.c 10 rfl; have q10 := Y0.c 10 rfl; have r10 := Z0.c 10 rfl; have p11 := X0.c 11 rfl; have q11 := Y0.c 11 rfl; have r11 := Z0.c 11 rfl; clear X0 Y0 Z0
        go_wp2_with fail
        refine (C4 _).mono ?_
        rintro e f3 ⟨rfl, hB⟩
        have HB := (T0.step hB).below
        have HR : Hid (upB x y z u v t a b c = decide (turnI x y z u v t a b c < 0)) := by
          show _ = _
          unfold upB
          rw [HC]
          simp only [h2, h3, decide_true, Bool.true_and]
        clear hB T0 p0 q0 r0 p1 q1 r1 p2 q2 r2 p3 q3 r3 p4 q4 r4 p5 q5 r5 p6 q6 r6 p7 q7 r7 p8 q8 r8 p9 q9 r9 p10 q10 r10 p11 q11 r11 HC h2 h3 C4
        go_wp2
        go_ret
        exact ⟨by rw [HR.out]; rfl, HB⟩
      · have d3 : decide (cmpI (a * t) (u * c) < 0) = false := decide_eq_false h3
        have HR : Hid (upB x y z u v t a b c = false) := by show _ = _; unfold upB; rw [HC]; simp [h3]
        have HB := T0.below
        clear T0 HC h2 h3 C4
        go_wp2
        go_ret
        exact ⟨by rw [HR.out]; rfl, HB⟩
    · have d2 : decide (cmpI (x * c) (a * z) ≤ 0) = false := decide_eq_false h2
      have HR : Hid (upB x y z u v t a b c = false) := by show _ = _; unfold upB; rw [HC]; simp [h2]
      have HB := T0.below
      clear T0 HC h2 C3 C4
      go_wp2
      go_ret
      exact ⟨by rw [HR.out]; rfl, HB⟩
end Go.Proofs.Ytofjlobbohfacaa

/- How a value of four words reads as data: opened and shut. -/
namespace Go.Proofs.Ytofjlobbohfacaa
open Go.ChangeShapes Go.WideShapes Go.ChangeAt Go.RowKit Go.Joins
theorem Try.own : ownKnob Try.prog.godebug = none := by kernel_rfl
theorem Try.cells28 : Try.prog.cellsOf 25 = 4 := by kernel_rfl
theorem word_of_wf {x : Int} (h : (Lit.int .u64 x).wf = true) : Word x := by
  simp [Lit.wf, IntKind.min, IntKind.max, IntKind.signed, IntKind.bits] at h
  exact ⟨by omega, by omega⟩
theorem shut_wide {H : Type} {enc : TypeId × Value → H} {w : World} {base : Nat} {spare : TypeId → Bool} {held : Bool} {a3 a2 a1 a0 : Int} (w3 : (Lit.int .u64 a3).wf = true) (w2 : (Lit.int .u64 a2).wf = true) (w1 : (Lit.int .u64 a1).wf = true) (w0 : (Lit.int .u64 a0).wf = true) :
    DataW.Trod enc Try.prog w base spare held 25 (.agg #[.int .u64 a3, .int .u64 a2, .int .u64 a1, .int .u64 a0]) (.agg [.lit (.int .u64 a3), .lit (.int .u64 a2), .lit (.int .u64 a1), .lit (.int .u64 a0)]) [] :=
  shut_agg4 (y0 := (.lit (.int .u64 a3), [])) (y1 := (.lit (.int .u64 a2), [])) (y2 := (.lit (.int .u64 a1), [])) (y3 := (.lit (.int .u64 a0), [])) Try.underlying25 (by kernel_rfl) Try.cells28
    ⟨1, by simp [DataW.trod, Try.underlying23, w3]⟩ ⟨1, by simp [DataW.trod, Try.underlying23, w2]⟩ ⟨1, by simp [DataW.trod, Try.underlying23, w1]⟩ ⟨1, by simp [DataW.trod, Try.underlying23, w0]⟩
end Go.Proofs.Ytofjlobbohfacaa

/- Points: the law's own copy of one, and how one reads as data. -/
namespace Go.Proofs.Ytofjlobbohfacaa
open Go.ChangeShapes Go.WideShapes Go.ChangeAt Go.RowKit Go.Joins
theorem toWide_det (x : Int) (w : World) : Calls Try.prog 29 #[W4 x] w (VP (W4 x) w) := toWide_any _ _ _ _ w
set_option maxRecDepth 100000 in
set_option maxHeartbeats 2000000 in
theorem toPoint_det (x y z : Int) (w : World) : Calls Try.prog 9 #[PV x y z] w (VP (PV x y z) w) := by
  have T5 : ArgsB w (((w.alloc (.cells #[.int .u64 (ww3 x), .int .u64 (ww2 x), .int .u64 (ww1 x), .int .u64 (ww0 x), .int .u64 (ww3 y), .int .u64 (ww2 y), .int .u64 (ww1 y), .int .u64 (ww0 y), .int .u64 (ww3 z), .int .u64 (ww2 z), .int .u64 (ww1 z), .int .u64 (ww0 z)] 27)).alloc (.cells #[.int .u64 0, .int .u64 0, .int .u64 0, .int .u64 0, .int .u64 0, .int .u64 0, .int .u64 0, .int .u64 0, .int .u64 0, .int .u64 0, .int .u64 0, .int .u64 0] 34)).alloc (.cells #[.int .u64 0, .int .u64 0, .int .u64 0, .int .u64 0, .int .u64 0, .int .u64 0, .int .u64 0, .int .u64 0, .int .u64 0, .int .u64 0, .int .u64 0, .int .u64 0] 34)) [[.int .u64 (ww3 x), .int .u64 (ww2 x), .int .u64 (ww1 x), .int .u64 (ww0 x), .int .u64 (ww3 y), .int .u64 (ww2 y), .int .u64 (ww1 y), .int .u64 (ww0 y), .int .u64 (ww3 z), .int .u64 (ww2 z), .int .u64 (ww1 z), .int .u64 (ww0 z)], [.int .u64 0, .int .u64 0, .int .u64 0, .int .u64 0, .int .u64 0, .int .u64 0, .int .u64 0, .int .u64 0, .int .u64 0, .int .u64 0, .int .u64 0, .int .u64 0], [.int .u64 0, .int .u64 0, .int .u64 0, .int .u64 0, .int .u64 0, .int .u64 0, .int .u64 0, .int .u64 0, .int .u64 0, .int .u64 0, .int .u64 0, .int .u64 0]] := ar3 _ _ _ _ _ _ w
  have X0 : Blk _ w.heap.size _ := T5.b 0 rfl; have R0 : Blk _ (w.heap.size + 1) _ := T5.b 1 rfl; have O0 : Blk _ (w.heap.size + 1 + 1) _ := T5.b 2 rfl
  have HB := T5.below
  clear T5
  go_enter Try.func9, Try.ntmps9
  go_wp2_with fail
  refine (toWide_det x _).mono ?_
  rintro e w1 ⟨rfl, hB⟩
  replace X0 := X0.step hB; replace R0 := R0.step hB; replace O0 := O0.step hB; replace HB := HB.trans (hB.mono HB.size)
  clear hB
  have xc4 := X0.c 4 rfl; have xc5 := X0.c 5 rfl; have xc6 := X0.c 6 rfl; have xc7 := X0.c 7 rfl; have xl := X0.lt; have oc0 := O0.c 0 rfl; have of0 := O0.f 0 rfl; have oc1 := O0.c 1 rfl; have of1 := O0.f 1 rfl; have oc2 := O0.c 2 rfl; have of2 := O0.f 2 rfl; have oc3 := O0.c 3 rfl; have of3 := O0.f 3 rfl; have ol := O0.lt
  go_wp2_with fail
  clear xc4 xc5 xc6 xc7 xl oc0 of0 oc1 of1 oc2 of2 oc3 of3 ol
  replace X0 : Blk ((((w1.setCell ⟨w.heap.size + 1 + 1, 0, none⟩ (.int .u64 (ww3 x))).setCell ⟨w.heap.size + 1 + 1, 1, none⟩ (.int .u64 (ww2 x))).setCell ⟨w.heap.size + 1 + 1, 2, none⟩ (.int .u64 (ww1 x))).setCell ⟨w.heap.size + 1 + 1, 3, none⟩ (.int .u64 (ww0 x))) w.heap.size _ := (((X0.setO (by show w.heap.size ≠ w.heap.size + 1 + 1; omega) _).setO (by show w.heap.size ≠ w.heap.size + 1 + 1; omega) _).setO (by show w.heap.size ≠ w.heap.size + 1 + 1; omega) _).setO (by show w.heap.size ≠ w.heap.size + 1 + 1; omega) _
  replace R0 : Blk ((((w1.setCell ⟨w.heap.size + 1 + 1, 0, none⟩ (.int .u64 (ww3 x))).setCell ⟨w.heap.size + 1 + 1, 1, none⟩ (.int .u64 (ww2 x))).setCell ⟨w.heap.size + 1 + 1, 2, none⟩ (.int .u64 (ww1 x))).setCell ⟨w.heap.size + 1 + 1, 3, none⟩ (.int .u64 (ww0 x))) (w.heap.size + 1) _ := (((R0.setO (by show w.heap.size + 1 ≠ w.heap.size + 1 + 1; omega) _).setO (by show w.heap.size + 1 ≠ w.heap.size + 1 + 1; omega) _).setO (by show w.heap.size + 1 ≠ w.heap.size + 1 + 1; omega) _).setO (by show w.heap.size + 1 ≠ w.heap.size + 1 + 1; omega) _
  replace O0 := (((O0.setI 0 (by simp) (.int .u64 (ww3 x))).setI 1 (by simp) (.int .u64 (ww2 x))).setI 2 (by simp) (.int .u64 (ww1 x))).setI 3 (by simp) (.int .u64 (ww0 x))
  replace HB : Below w.heap.size w ((((w1.setCell ⟨w.heap.size + 1 + 1, 0, none⟩ (.int .u64 (ww3 x))).setCell ⟨w.heap.size + 1 + 1, 1, none⟩ (.int .u64 (ww2 x))).setCell ⟨w.heap.size + 1 + 1, 2, none⟩ (.int .u64 (ww1 x))).setCell ⟨w.heap.size + 1 + 1, 3, none⟩ (.int .u64 (ww0 x))) := (((HB.setCell (by show w.heap.size ≤ w.heap.size + 1 + 1; omega) _).setCell (by show w.heap.size ≤ w.heap.size + 1 + 1; omega) _).setCell (by show w.heap.size ≤ w.heap.size + 1 + 1; omega) _).setCell (by show w.heap.size ≤ w.heap.size + 1 + 1; omega) _
  generalize ((((w1.setCell ⟨w.heap.size + 1 + 1, 0, none⟩ (.int .u64 (ww3 x))).setCell ⟨w.heap.size + 1 + 1, 1, none⟩ (.int .u64 (ww2 x))).setCell ⟨w.heap.size + 1 + 1, 2, none⟩ (.int .u64 (ww1 x))).setCell ⟨w.heap.size + 1 + 1, 3, none⟩ (.int .u64 (ww0 x))) = W1 at *
  simp only [List.set_cons_zero, List.set_cons_succ] at O0
  refine (toWide_det y _).mono ?_
  rintro e w2 ⟨rfl, hB⟩
  replace X0 := X0.step hB; replace R0 := R0.step hB; replace O0 := O0.step hB; replace HB := HB.trans (hB.mono HB.size)
  clear hB
  have xc8 := X0.c 8 rfl; have xc9 := X0.c 9 rfl; have xc10 := X0.c 10 rfl; have xc11 := X0.c 11 rfl; have xl := X0.lt; have oc4 := O0.c 4 rfl; have of4 := O0.f 4 rfl; have oc5 := O0.c 5 rfl; have of5 := O0.f 5 rfl; have oc6 := O0.c 6 rfl; have of6 := O0.f 6 rfl; have oc7 := O0.c 7 rfl; have of7 := O0.f 7 rfl; have ol := O0.lt
  go_wp2_with fail
  clear xc8 xc9 xc10 xc11 xl oc4 of4 oc5 of5 oc6 of6 oc7 of7 ol
  replace X0 : Blk ((((w2.setCell ⟨w.heap.size + 1 + 1, 4, none⟩ (.int .u64 (ww3 y))).setCell ⟨w.heap.size + 1 + 1, 5, none⟩ (.int .u64 (ww2 y))).setCell ⟨w.heap.size + 1 + 1, 6, none⟩ (.int .u64 (ww1 y))).setCell ⟨w.heap.size + 1 + 1, 7, none⟩ (.int .u64 (ww0 y))) w.heap.size _ := (((X0.setO (by show w.heap.size ≠ w.heap.size + 1 + 1; omega) _).setO (by show w.heap.size ≠ w.heap.size + 1 + 1; omega) _).setO (by show w.heap.size ≠ w.heap.size + 1 + 1; omega) _).setO (by show w.heap.size ≠ w.heap.size + 1 + 1; omega) _
  replace R0 : Blk ((((w2.setCell ⟨w.heap.size + 1 + 1, 4, none⟩ (.int .u64 (ww3 y))).setCell ⟨w.heap.size + 1 + 1, 5, none⟩ (.int .u64 (ww2 y))).setCell ⟨w.heap.size + 1 + 1, 6, none⟩ (.int .u64 (ww1 y))).setCell ⟨w.heap.size + 1 + 1, 7, none⟩ (.int .u64 (ww0 y))) (w.heap.size + 1) _ := (((R0.setO (by show w.heap.size + 1 ≠ w.heap.size + 1 + 1; omega) _).setO (by show w.heap.size + 1 ≠ w.heap.size + 1 + 1; omega) _).setO (by show w.heap.size + 1 ≠ w.heap.size + 1 + 1; omega) _).setO (by show w.heap.size + 1 ≠ w.heap.size + 1 + 1; omega) _
  replace O0 := (((O0.setI 4 (by simp) (.int .u64 (ww3 y))).setI 5 (by simp) (.int .u64 (ww2 y))).setI 6 (by simp) (.int .u64 (ww1 y))).setI 7 (by simp) (.int .u64 (ww0 y))
  replace HB : Below w.heap.size w ((((w2.setCell ⟨w.heap.size + 1 + 1, 4, none⟩ (.int .u64 (ww3 y))).setCell ⟨w.heap.size + 1 + 1, 5, none⟩ (.int .u64 (ww2 y))).setCell ⟨w.heap.size + 1 + 1, 6, none⟩ (.int .u64 (ww1 y))).setCell ⟨w.heap.size + 1 + 1, 7, none⟩ (.int .u64 (ww0 y))) := (((HB.setCell (by show w.heap.size ≤ w.heap.size + 1 + 1; omega) _).setCell (by show w.heap.size ≤ w.heap.size + 1 + 1; omega) _).setCell (by show w.heap.size ≤ w.heap.size + 1 + 1; omega) _).setCell (by show w.heap.size ≤ w.heap.size + 1 + 1; omega) _
  generalize ((((w2.setCell ⟨w.heap.size + 1 + 1, 4, none⟩ (.int .u64 (ww3 y))).setCell ⟨w.heap.size + 1 + 1, 5, none⟩ (.int .u64 (ww2 y))).setCell ⟨w.heap.size + 1 + 1, 6, none⟩ (.int .u64 (ww1 y))).setCell ⟨w.heap.size + 1 + 1, 7, none⟩ (.int .u64 (ww0 y))) = W2 at *
  simp only [List.set_cons_zero, List.set_cons_succ] at O0
  refine (toWide_det z _).mono ?_
  rintro e w3 ⟨rfl, hB⟩
  replace X0 := X0.step hB; replace R0 := R0.step hB; replace O0 := O0.step hB; replace HB := HB.trans (hB.mono HB.size)
  clear hB
  have oc0 := O0.c 0 rfl; have of0 := O0.f 0 rfl; have oc1 := O0.c 1 rfl; have of1 := O0.f 1 rfl; have oc2 := O0.c 2 rfl; have of2 := O0.f 2 rfl; have oc3 := O0.c 3 rfl; have of3 := O0.f 3 rfl; have oc4 := O0.c 4 rfl; have of4 := O0.f 4 rfl; have oc5 := O0.c 5 rfl; have of5 := O0.f 5 rfl; have oc6 := O0.c 6 rfl; have of6 := O0.f 6 rfl; have oc7 := O0.c 7 rfl; have of7 := O0.f 7 rfl; have oc8 := O0.c 8 rfl; have of8 := O0.f 8 rfl; have oc9 := O0.c 9 rfl; have of9 := O0.f 9 rfl; have oc10 := O0.c 10 rfl; have of10 := O0.f 10 rfl; have oc11 := O0.c 11 rfl; have of11 := O0.f 11 rfl; have ol := O0.lt; have rc0 := R0.c 0 rfl; have rf0 := R0.f 0 rfl; have rc1 := R0.c 1 rfl; have rf1 := R0.f 1 rfl; have rc2 := R0.c 2 rfl; have rf2 := R0.f 2 rfl; have rc3 := R0.c 3 rfl; have rf3 := R0.f 3 rfl; have rc4 := R0.c 4 rfl; have rf4 := R0.f 4 rfl; have rc5 := R0.c 5 rfl; have rf5 := R0.f 5 rfl; have rc6 := R0.c 6 rfl; have rf6 := R0.f 6 rfl; have rc7 := R0.c 7 rfl; have rf7 := R0.f 7 rfl; have rc8 := R0.c 8 rfl; have rf8 := R0.f 8 rfl; have rc9 := R0.c 9 rfl; have rf9 := R0.f 9 rfl; have rc10 := R0.c 10 rfl; have rf10 := R0.f 10 rfl; have rc11 := R0.c 11 rfl; have rf11 := R0.f 11 rfl; have rl := R0.lt
  have hne : w.heap.size + 1 + 1 ≠ w.heap.size + 1 := by omega
  clear R0 O0 X0
  go_wp2
  refine bodyPost_ret (v := PV x y z) (by simp [results, Try.results9, go_sem, rc0, rc1, rc2, rc3, rc4, rc5, rc6, rc7, rc8, rc9, rc10, rc11]) rfl ?_
  refine ⟨rfl, ?_⟩
  repeat' (refine Below.setCell ?_ (by simp; try omega) _)
  exact HB
abbrev Wu (x : Int) : Prop := (Lit.int .u64 x).wf = true
abbrev WdD {H : Type} (a3 a2 a1 a0 : Int) : DataW H := .agg [.lit (.int .u64 a3), .lit (.int .u64 a2), .lit (.int .u64 a1), .lit (.int .u64 a0)]
abbrev PtD {H : Type} (x y z : Int) : DataW H := .agg [WdD (ww3 x) (ww2 x) (ww1 x) (ww0 x), WdD (ww3 y) (ww2 y) (ww1 y) (ww0 y), WdD (ww3 z) (ww2 z) (ww1 z) (ww0 z)]
theorem Try.cellsPoint : Try.prog.cellsOf 27 = 12 := by kernel_rfl
theorem array12 (T : Array Value) (h : T.size = 12) : ∃ v0 v1 v2 v3 v4 v5 v6 v7 v8 v9 v10 v11 : Value, T = #[v0, v1, v2, v3, v4, v5, v6, v7, v8, v9, v10, v11] := by
  match T, h with
  | ⟨[v0, v1, v2, v3, v4, v5, v6, v7, v8, v9, v10, v11]⟩, _ => exact ⟨v0, v1, v2, v3, v4, v5, v6, v7, v8, v9, v10, v11, rfl⟩
theorem trod_wide {H : Type} {enc : TypeId × Value → H} {w : World} {base : Nat} {spare : TypeId → Bool} {held : Bool} {n : Nat} {c0 c1 c2 c3 : Value} {y : DataW H × List MemPlace} (h : DataW.trod enc Try.prog w base spare held n 25 [c0, c1, c2, c3] = some y) :
    ∃ z : Int, told z = true ∧ c0 = .int .u64 (ww3 z) ∧ c1 = .int .u64 (ww2 z) ∧ c2 = .int .u64 (ww1 z) ∧ c3 = .int .u64 (ww0 z) ∧ y = (WdD (ww3 z) (ww2 z) (ww1 z) (ww0 z), []) := by
  obtain ⟨y0, y1, y2, y3, m, hx, _, h0, h1, h2, h3⟩ := trod_struct4 Try.underlying25 h
  obtain ⟨a, e0, rfl, wa⟩ := DataW.trod_int Try.underlying23 h0
  obtain ⟨b, e1, rfl, wb⟩ := DataW.trod_int Try.underlying23 h1
  obtain ⟨c, e2, rfl, wc⟩ := DataW.trod_int Try.underlying23 h2
  obtain ⟨d, e3, rfl, wd⟩ := DataW.trod_int Try.underlying23 h3
  have k : Try.prog.cellsOf 23 = 1 := by kernel_rfl
  simp [k] at e0 e1 e2 e3
  have ha := word_of_wf wa; have hb := word_of_wf wb; have hc := word_of_wf wc; have hd := word_of_wf wd
  obtain ⟨f3, f2, f1, f0⟩ := wd_of ha hb hc hd rfl
  have ht : told (sw a b c d) = true := by
    unfold told
    apply decide_eq_true
    unfold Word sw uw at *
    split <;> omega
  exact ⟨sw a b c d, ht, e0.trans (congrArg _ f3), e1.trans (congrArg _ f2), e2.trans (congrArg _ f1), e3.trans (congrArg _ f0), by rw [← f3, ← f2, ← f1, ← f0]; exact hx⟩
theorem wu_of {z : Int} (h : Word z) : Wu z := by
  obtain ⟨h0, h1⟩ := h
  show (Lit.int .u64 z).wf = true
  simp [Lit.wf, IntKind.min, IntKind.max, IntKind.signed, IntKind.bits]
  omega
theorem shut_wide' {H : Type} {enc : TypeId × Value → H} {w : World} {base : Nat} {spare : TypeId → Bool} {held : Bool} (z : Int) : DataW.Trod enc Try.prog w base spare held 25 (W4 z) (WdD (ww3 z) (ww2 z) (ww1 z) (ww0 z)) [] := by
  obtain ⟨p3, p2, p1, p0⟩ := ww_words z
  exact shut_wide (wu_of p3) (wu_of p2) (wu_of p1) (wu_of p0)
set_option maxRecDepth 100000 in
theorem open_point {H : Type} {enc : TypeId × Value → H} {w : World} {b0' : Nat} {v : Value} {d : DataW H} {p : List MemPlace} (hv : Value.okWide Try.prog w .any b0' 27 v) (h : DataW.Trod enc Try.prog w 0 (fun _ => true) true 27 v d p) :
    ∃ x y z : Int, v = PV x y z ∧ d = PtD x y z ∧ p = [] ∧ told x = true ∧ told y = true ∧ told z = true := by
  obtain ⟨cs, rfl, hsz⟩ := okWide_struct Try.underlying27 hv
  obtain ⟨c0, c1, c2, c3, c4, c5, c6, c7, c8, c9, c10, c11, rfl⟩ := array12 cs (hsz.trans Try.cellsPoint)
  obtain ⟨fuel, hf⟩ := h
  obtain ⟨y0, y1, y2, n, hx, _, h0, h1, h2⟩ := Go.Deep.trod_struct3 Try.underlying27 hf
  simp [Value.cells, Try.cells28] at h0 h1 h2
  obtain ⟨x, tx, rfl, rfl, rfl, rfl, rfl⟩ := trod_wide h0
  obtain ⟨y, ty, rfl, rfl, rfl, rfl, rfl⟩ := trod_wide h1
  obtain ⟨z, tz, rfl, rfl, rfl, rfl, rfl⟩ := trod_wide h2
  simp only [Prod.mk.injEq] at hx
  exact ⟨x, y, z, rfl, hx.1, by simpa using hx.2, tx, ty, tz⟩
theorem shut_point {H : Type} {enc : TypeId × Value → H} {w : World} {base : Nat} {spare : TypeId → Bool} {held : Bool} (x y z : Int) :
    DataW.Trod enc Try.prog w base spare held 27 (PV x y z) (PtD x y z) [] := by
  obtain ⟨n0, t0⟩ := shut_wide' (enc := enc) (w := w) (base := base) (spare := spare) (held := held) x
  obtain ⟨n1, t1⟩ := shut_wide' (enc := enc) (w := w) (base := base) (spare := spare) (held := held) y
  obtain ⟨n2, t2⟩ := shut_wide' (enc := enc) (w := w) (base := base) (spare := spare) (held := held) z
  have ts := Go.Deep.trod_struct3_mk (enc := enc) (w := w) (base := base) (spare := spare) (held := held) (n := max n0 (max n1 n2)) (cs := [.int .u64 (ww3 x), .int .u64 (ww2 x), .int .u64 (ww1 x), .int .u64 (ww0 x), .int .u64 (ww3 y), .int .u64 (ww2 y), .int .u64 (ww1 y), .int .u64 (ww0 y), .int .u64 (ww3 z), .int .u64 (ww2 z), .int .u64 (ww1 z), .int .u64 (ww0 z)]) Try.underlying27 (by simp [Try.cellsPoint])
    (by simpa [Value.cells, Try.cells28] using DataW.trod_le (by omega) t0) (by simpa [Value.cells, Try.cells28] using DataW.trod_le (by omega) t1) (by simpa [Value.cells, Try.cells28] using DataW.trod_le (by omega) t2)
  exact ⟨_, by simpa [Value.cells] using ts⟩
end Go.Proofs.Ytofjlobbohfacaa

/- A spot as a point: the walks of the model's point, of the program's, and of the law. -/
namespace Go.Proofs.Ytofjlobbohfacaa
open Go.RowKit
end Go.Proofs.Ytofjlobbohfacaa

/- Spots and segments beside points: the walks of their rightness, by the model and by the program. -/
namespace Go.Proofs.Ytofjlobbohfacaa
open Go.RowKit
/-- Four cells of a block, to be written. -/
structure Quad (W : World) (g : Nat) (v0 v1 v2 v3 : Value) : Prop where
  c0 : W.cell? ⟨g, 0, none⟩ = some v0
  c1 : W.cell? ⟨g, 1, none⟩ = some v1
  c2 : W.cell? ⟨g, 2, none⟩ = some v2
  c3 : W.cell? ⟨g, 3, none⟩ = some v3
  f0 : W.frozen? ⟨g, 0, none⟩ = false
  f1 : W.frozen? ⟨g, 1, none⟩ = false
  f2 : W.frozen? ⟨g, 2, none⟩ = false
  f3 : W.frozen? ⟨g, 3, none⟩ = false
  lt : g < W.heap.size
theorem Quad.below {W W' : World} {B g : Nat} {v0 v1 v2 v3 : Value} (h : Quad W g v0 v1 v2 v3) (hB : Below B W W') (hg : g < B) : Quad W' g v0 v1 v2 v3 :=
  ⟨(hB.cell (p := ⟨g, 0, none⟩) hg).trans h.c0, (hB.cell (p := ⟨g, 1, none⟩) hg).trans h.c1, (hB.cell (p := ⟨g, 2, none⟩) hg).trans h.c2, (hB.cell (p := ⟨g, 3, none⟩) hg).trans h.c3,
   (hB.frozen (p := ⟨g, 0, none⟩) hg).trans h.f0, (hB.frozen (p := ⟨g, 1, none⟩) hg).trans h.f1, (hB.frozen (p := ⟨g, 2, none⟩) hg).trans h.f2, (hB.frozen (p := ⟨g, 3, none⟩) hg).trans h.f3, Nat.lt_of_lt_of_le h.lt hB.size⟩
theorem Quad.alloc {W : World} {g : Nat} {v0 v1 v2 v3 : Value} (h : Quad W g v0 v1 v2 v3) (o : Obj) : Quad (W.alloc o) g v0 v1 v2 v3 := h.below ((Below.refl W.heap.size W).alloc (Nat.le_refl _) o) h.lt
theorem Quad.new (W : World) (v0 v1 v2 v3 : Value) (t : TypeId) {g : Nat} (hg : g = W.heap.size) : Quad (W.alloc (.cells #[v0, v1, v2, v3] t)) g v0 v1 v2 v3 := by
  subst hg
  constructor <;> simp [go_sem]
end Go.Proofs.Ytofjlobbohfacaa

/- The ends of a segment as points: the program's walk. -/
namespace Go.Proofs.Ytofjlobbohfacaa
open Go.RowKit
theorem Blk.set12 {W : World} {vs : List Value} {v0 v1 v2 v3 v4 v5 v6 v7 v8 v9 v10 v11 : Value} {g g' : Nat} (G : Blk W g' vs) (hg : g' ≠ g) : Blk ((((((((((((W.setCell ⟨g, 0, none⟩ v0).setCell ⟨g, 1, none⟩ v1).setCell ⟨g, 2, none⟩ v2).setCell ⟨g, 3, none⟩ v3).setCell ⟨g, 4, none⟩ v4).setCell ⟨g, 5, none⟩ v5).setCell ⟨g, 6, none⟩ v6).setCell ⟨g, 7, none⟩ v7).setCell ⟨g, 8, none⟩ v8).setCell ⟨g, 9, none⟩ v9).setCell ⟨g, 10, none⟩ v10).setCell ⟨g, 11, none⟩ v11) g' vs :=
  (((((((((((G.setO hg v0).setO hg v1).setO hg v2).setO hg v3).setO hg v4).setO hg v5).setO hg v6).setO hg v7).setO hg v8).setO hg v9).setO hg v10).setO hg v11
theorem Blk.stored12 {W : World} {g : Nat} {z0 z1 z2 z3 z4 z5 z6 z7 z8 z9 z10 z11 : Value} (G : Blk W g [z0, z1, z2, z3, z4, z5, z6, z7, z8, z9, z10, z11]) (v0 v1 v2 v3 v4 v5 v6 v7 v8 v9 v10 v11 : Value) : Blk ((((((((((((W.setCell ⟨g, 0, none⟩ v0).setCell ⟨g, 1, none⟩ v1).setCell ⟨g, 2, none⟩ v2).setCell ⟨g, 3, none⟩ v3).setCell ⟨g, 4, none⟩ v4).setCell ⟨g, 5, none⟩ v5).setCell ⟨g, 6, none⟩ v6).setCell ⟨g, 7, none⟩ v7).setCell ⟨g, 8, none⟩ v8).setCell ⟨g, 9, none⟩ v9).setCell ⟨g, 10, none⟩ v10).setCell ⟨g, 11, none⟩ v11) g [v0, v1, v2, v3, v4, v5, v6, v7, v8, v9, v10, v11] :=
  (((((((((((G.setI 0 (by simp) v0).setI 1 (by simp) v1).setI 2 (by simp) v2).setI 3 (by simp) v3).setI 4 (by simp) v4).setI 5 (by simp) v5).setI 6 (by simp) v6).setI 7 (by simp) v7).setI 8 (by simp) v8).setI 9 (by simp) v9).setI 10 (by simp) v10).setI 11 (by simp) v11
theorem Below.set12 {B g : Nat} {w W : World} {v0 v1 v2 v3 v4 v5 v6 v7 v8 v9 v10 v11 : Value} (hg : B ≤ g) (h : Below B w W) : Below B w ((((((((((((W.setCell ⟨g, 0, none⟩ v0).setCell ⟨g, 1, none⟩ v1).setCell ⟨g, 2, none⟩ v2).setCell ⟨g, 3, none⟩ v3).setCell ⟨g, 4, none⟩ v4).setCell ⟨g, 5, none⟩ v5).setCell ⟨g, 6, none⟩ v6).setCell ⟨g, 7, none⟩ v7).setCell ⟨g, 8, none⟩ v8).setCell ⟨g, 9, none⟩ v9).setCell ⟨g, 10, none⟩ v10).setCell ⟨g, 11, none⟩ v11) :=
  (((((((((((h.setCell (p := ⟨g, 0, none⟩) hg _).setCell (p := ⟨g, 1, none⟩) hg _).setCell (p := ⟨g, 2, none⟩) hg _).setCell (p := ⟨g, 3, none⟩) hg _).setCell (p := ⟨g, 4, none⟩) hg _).setCell (p := ⟨g, 5, none⟩) hg _).setCell (p := ⟨g, 6, none⟩) hg _).setCell (p := ⟨g, 7, none⟩) hg _).setCell (p := ⟨g, 8, none⟩) hg _).setCell (p := ⟨g, 9, none⟩) hg _).setCell (p := ⟨g, 10, none⟩) hg _).setCell (p := ⟨g, 11, none⟩) hg _
end Go.Proofs.Ytofjlobbohfacaa

/- Two points that are one: the walk of the law's comparison. -/
namespace Go.Proofs.Ytofjlobbohfacaa
open Go.RowKit
set_option maxRecDepth 100000 in
set_option maxHeartbeats 2000000 in
theorem eqPoint_same (a0 a1 a2 a3 a4 a5 a6 a7 a8 a9 a10 a11 : Int) (w : World) : Calls Try.prog 75 #[.agg #[.int .u64 a0, .int .u64 a1, .int .u64 a2, .int .u64 a3, .int .u64 a4, .int .u64 a5, .int .u64 a6, .int .u64 a7, .int .u64 a8, .int .u64 a9, .int .u64 a10, .int .u64 a11], .agg #[.int .u64 a0, .int .u64 a1, .int .u64 a2, .int .u64 a3, .int .u64 a4, .int .u64 a5, .int .u64 a6, .int .u64 a7, .int .u64 a8, .int .u64 a9, .int .u64 a10, .int .u64 a11]] w (BoolP true w) := by
  have B0 := (Blk.new w [.int .u64 a0, .int .u64 a1, .int .u64 a2, .int .u64 a3, .int .u64 a4, .int .u64 a5, .int .u64 a6, .int .u64 a7, .int .u64 a8, .int .u64 a9, .int .u64 a10, .int .u64 a11] 34 rfl).alloc (.cells #[.int .u64 a0, .int .u64 a1, .int .u64 a2, .int .u64 a3, .int .u64 a4, .int .u64 a5, .int .u64 a6, .int .u64 a7, .int .u64 a8, .int .u64 a9, .int .u64 a10, .int .u64 a11] 34)
  have B1 := Blk.new (w.alloc (.cells #[.int .u64 a0, .int .u64 a1, .int .u64 a2, .int .u64 a3, .int .u64 a4, .int .u64 a5, .int .u64 a6, .int .u64 a7, .int .u64 a8, .int .u64 a9, .int .u64 a10, .int .u64 a11] 34)) [.int .u64 a0, .int .u64 a1, .int .u64 a2, .int .u64 a3, .int .u64 a4, .int .u64 a5, .int .u64 a6, .int .u64 a7, .int .u64 a8, .int .u64 a9, .int .u64 a10, .int .u64 a11] 34 (g := w.heap.size + 1) (by simp)
  have HB0 : Below w.heap.size w ((w.alloc (.cells #[.int .u64 a0, .int .u64 a1, .int .u64 a2, .int .u64 a3, .int .u64 a4, .int .u64 a5, .int .u64 a6, .int .u64 a7, .int .u64 a8, .int .u64 a9, .int .u64 a10, .int .u64 a11] 34)).alloc (.cells #[.int .u64 a0, .int .u64 a1, .int .u64 a2, .int .u64 a3, .int .u64 a4, .int .u64 a5, .int .u64 a6, .int .u64 a7, .int .u64 a8, .int .u64 a9, .int .u64 a10, .int .u64 a11] 34)) := ((Below.refl _ _).alloc (Nat.le_refl _) _).alloc (by simp) _
  go_enter Try.func75, Try.ntmps75
  go_wp2_with fail
  refine (eqWide_same _ _ _ _ _).mono ?_
  rintro e w1 ⟨rfl, hB⟩
  replace B0 := B0.step hB; replace B1 := B1.step hB
  have HB1 : Below w.heap.size w w1 := HB0.trans (hB.mono HB0.size)
  clear hB
  have ma0 := B0.c 0 rfl; have mb0 := B1.c 0 rfl; have ma1 := B0.c 1 rfl; have mb1 := B1.c 1 rfl; have ma2 := B0.c 2 rfl; have mb2 := B1.c 2 rfl; have ma3 := B0.c 3 rfl; have mb3 := B1.c 3 rfl; have ma4 := B0.c 4 rfl; have mb4 := B1.c 4 rfl; have ma5 := B0.c 5 rfl; have mb5 := B1.c 5 rfl; have ma6 := B0.c 6 rfl; have mb6 := B1.c 6 rfl; have ma7 := B0.c 7 rfl; have mb7 := B1.c 7 rfl; have ma8 := B0.c 8 rfl; have mb8 := B1.c 8 rfl; have ma9 := B0.c 9 rfl; have mb9 := B1.c 9 rfl; have ma10 := B0.c 10 rfl; have mb10 := B1.c 10 rfl; have ma11 := B0.c 11 rfl; have mb11 := B1.c 11 rfl
  go_wp2_with fail
  refine (eqWide_same _ _ _ _ _).mono ?_
  rintro e w2 ⟨rfl, hB⟩
  replace B0 := B0.step hB; replace B1 := B1.step hB
  have HB2 : Below w.heap.size w w2 := HB1.trans (hB.mono HB1.size)
  clear hB ma0 mb0 ma1 mb1 ma2 mb2 ma3 mb3 ma4 mb4 ma5 mb5 ma6 mb6 ma7 mb7 ma8 mb8 ma9 mb9 ma10 mb10 ma11 mb11
  have ma0 := B0.c 0 rfl; have mb0 := B1.c 0 rfl; have ma1 := B0.c 1 rfl; have mb1 := B1.c 1 rfl; have ma2 := B0.c 2 rfl; have mb2 := B1.c 2 rfl; have ma3 := B0.c 3 rfl; have mb3 := B1.c 3 rfl; have ma4 := B0.c 4 rfl; have mb4 := B1.c 4 rfl; have ma5 := B0.c 5 rfl; have mb5 := B1.c 5 rfl; have ma6 := B0.c 6 rfl; have mb6 := B1.c 6 rfl; have ma7 := B0.c 7 rfl; have mb7 := B1.c 7 rfl; have ma8 := B0.c 8 rfl; have mb8 := B1.c 8 rfl; have ma9 := B0.c 9 rfl; have mb9 := B1.c 9 rfl; have ma10 := B0.c 10 rfl; have mb10 := B1.c 10 rfl; have ma11 := B0.c 11 rfl; have mb11 := B1.c 11 rfl
  go_wp2_with fail
  refine (eqWide_same _ _ _ _ _).mono ?_
  rintro e w3 ⟨rfl, hB⟩
  replace B0 := B0.step hB; replace B1 := B1.step hB
  have HB3 : Below w.heap.size w w3 := HB2.trans (hB.mono HB2.size)
  clear hB ma0 mb0 ma1 mb1 ma2 mb2 ma3 mb3 ma4 mb4 ma5 mb5 ma6 mb6 ma7 mb7 ma8 mb8 ma9 mb9 ma10 mb10 ma11 mb11
  clear B0 B1
  go_wp2
  go_ret
  exact ⟨rfl, HB3⟩
end Go.Proofs.Ytofjlobbohfacaa
