/- Part 14 of the walks that the proof leans on. -/
import Derived.Test.YtppbfdpdcgjfcaaPart13
import Derived.Test.YtppbfdpdcgjfcaaPart1
import Derived.Test.YtppbfdpdcgjfcaaRows
import Derived.ProofKit
import Derived.Lib.SmallJoins
/- What lies between two points: the program's walks. -/
namespace Go.Proofs.Ytppbfdpdcgjfcaa
open Go.RowKit
theorem b3_cells {x y z u v t a b c : Int} {w W : World} (T0 : ArgsB w W [[.int .u64 (ww3 x), .int .u64 (ww2 x), .int .u64 (ww1 x), .int .u64 (ww0 x), .int .u64 (ww3 y), .int .u64 (ww2 y), .int .u64 (ww1 y), .int .u64 (ww0 y), .int .u64 (ww3 z), .int .u64 (ww2 z), .int .u64 (ww1 z), .int .u64 (ww0 z)], [.int .u64 (ww3 u), .int .u64 (ww2 u), .int .u64 (ww1 u), .int .u64 (ww0 u), .int .u64 (ww3 v), .int .u64 (ww2 v), .int .u64 (ww1 v), .int .u64 (ww0 v), .int .u64 (ww3 t), .int .u64 (ww2 t), .int .u64 (ww1 t), .int .u64 (ww0 t)], [.int .u64 (ww3 a), .int .u64 (ww2 a), .int .u64 (ww1 a), .int .u64 (ww0 a), .int .u64 (ww3 b), .int .u64 (ww2 b), .int .u64 (ww1 b), .int .u64 (ww0 b), .int .u64 (ww3 c), .int .u64 (ww2 c), .int .u64 (ww1 c), .int .u64 (ww0 c)]]) : (fun w' => w'.cell? ⟨w.heap.size, 0, none⟩ = some (.int .u64 (ww3 x)) ∧ w'.cell? ⟨w.heap.size, 1, none⟩ = some (.int .u64 (ww2 x)) ∧ w'.cell? ⟨w.heap.size, 2, none⟩ = some (.int .u64 (ww1 x)) ∧ w'.cell? ⟨w.heap.size, 3, none⟩ = some (.int .u64 (ww0 x)) ∧ w'.cell? ⟨w.heap.size, 4, none⟩ = some (.int .u64 (ww3 y)) ∧ w'.cell? ⟨w.heap.size, 5, none⟩ = some (.int .u64 (ww2 y)) ∧ w'.cell? ⟨w.heap.size, 6, none⟩ = some (.int .u64 (ww1 y)) ∧ w'.cell? ⟨w.heap.size, 7, none⟩ = some (.int .u64 (ww0 y)) ∧ w'.cell? ⟨w.heap.size, 8, none⟩ = some (.int .u64 (ww3 z)) ∧ w'.cell? ⟨w.heap.size, 9, none⟩ = some (.int .u64 (ww2 z)) ∧ w'.cell? ⟨w.heap.size, 10, none⟩ = some (.int .u64 (ww1 z)) ∧ w'.cell? ⟨w.heap.size, 11, none⟩ = some (.int .u64 (ww0 z)) ∧ w'.cell? ⟨w.heap.size + 1, 0, none⟩ = some (.int .u64 (ww3 u)) ∧ w'.cell? ⟨w.heap.size + 1, 1, none⟩ = some (.int .u64 (ww2 u)) ∧ w'.cell? ⟨w.heap.size + 1, 2, none⟩ = some (.int .u64 (ww1 u)) ∧ w'.cell? ⟨w.heap.size + 1, 3, none⟩ = some (.int .u64 (ww0 u)) ∧ w'.cell? ⟨w.heap.size + 1, 4, none⟩ = some (.int .u64 (ww3 v)) ∧ w'.cell? ⟨w.heap.size + 1, 5, none⟩ = some (.int .u64 (ww2 v)) ∧ w'.cell? ⟨w.heap.size + 1, 6, none⟩ = some (.int .u64 (ww1 v)) ∧ w'.cell? ⟨w.heap.size + 1, 7, none⟩ = some (.int .u64 (ww0 v)) ∧ w'.cell? ⟨w.heap.size + 1, 8, none⟩ = some (.int .u64 (ww3 t)) ∧ w'.cell? ⟨w.heap.size + 1, 9, none⟩ = some (.int .u64 (ww2 t)) ∧ w'.cell? ⟨w.heap.size + 1, 10, none⟩ = some (.int .u64 (ww1 t)) ∧ w'.cell? ⟨w.heap.size + 1, 11, none⟩ = some (.int .u64 (ww0 t)) ∧ w'.cell? ⟨w.heap.size + 2, 0, none⟩ = some (.int .u64 (ww3 a)) ∧ w'.cell? ⟨w.heap.size + 2, 1, none⟩ = some (.int .u64 (ww2 a)) ∧ w'.cell? ⟨w.heap.size + 2, 2, none⟩ = some (.int .u64 (ww1 a)) ∧ w'.cell? ⟨w.heap.size + 2, 3, none⟩ = some (.int .u64 (ww0 a)) ∧ w'.cell? ⟨w.heap.size + 2, 4, none⟩ = some (.int .u64 (ww3 b)) ∧ w'.cell? ⟨w.heap.size + 2, 5, none⟩ = some (.int .u64 (ww2 b)) ∧ w'.cell? ⟨w.heap.size + 2, 6, none⟩ = some (.int .u64 (ww1 b)) ∧ w'.cell? ⟨w.heap.size + 2, 7, none⟩ = some (.int .u64 (ww0 b)) ∧ w'.cell? ⟨w.heap.size + 2, 8, none⟩ = some (.int .u64 (ww3 c)) ∧ w'.cell? ⟨w.heap.size + 2, 9, none⟩ = some (.int .u64 (ww2 c)) ∧ w'.cell? ⟨w.heap.size + 2, 10, none⟩ = some (.int .u64 (ww1 c)) ∧ w'.cell? ⟨w.heap.size + 2, 11, none⟩ = some (.int .u64 (ww0 c))) W := ⟨(T0.b 0 rfl).c 0 rfl, (T0.b 0 rfl).c 1 rfl, (T0.b 0 rfl).c 2 rfl, (T0.b 0 rfl).c 3 rfl, (T0.b 0 rfl).c 4 rfl, (T0.b 0 rfl).c 5 rfl, (T0.b 0 rfl).c 6 rfl, (T0.b 0 rfl).c 7 rfl, (T0.b 0 rfl).c 8 rfl, (T0.b 0 rfl).c 9 rfl, (T0.b 0 rfl).c 10 rfl, (T0.b 0 rfl).c 11 rfl, (T0.b 1 rfl).c 0 rfl, (T0.b 1 rfl).c 1 rfl, (T0.b 1 rfl).c 2 rfl, (T0.b 1 rfl).c 3 rfl, (T0.b 1 rfl).c 4 rfl, (T0.b 1 rfl).c 5 rfl, (T0.b 1 rfl).c 6 rfl, (T0.b 1 rfl).c 7 rfl, (T0.b 1 rfl).c 8 rfl, (T0.b 1 rfl).c 9 rfl, (T0.b 1 rfl).c 10 rfl, (T0.b 1 rfl).c 11 rfl, (T0.b 2 rfl).c 0 rfl, (T0.b 2 rfl).c 1 rfl, (T0.b 2 rfl).c 2 rfl, (T0.b 2 rfl).c 3 rfl, (T0.b 2 rfl).c 4 rfl, (T0.b 2 rfl).c 5 rfl, (T0.b 2 rfl).c 6 rfl, (T0.b 2 rfl).c 7 rfl, (T0.b 2 rfl).c 8 rfl, (T0.b 2 rfl).c 9 rfl, (T0.b 2 rfl).c 10 rfl, (T0.b 2 rfl).c 11 rfl⟩
set_option maxRecDepth 100000 in
set_option maxHeartbeats 8000000 in
theorem lies_det (x y z u v t a b c : Int) (sx : small x = true) (sy : small y = true) (sz : small z = true) (su : small u = true) (sv : small v = true) (st : small t = true) (sa : small a = true) (sb : small b = true) (sc : small c = true) (hz : 0 < z) (ht : 0 < t) (hc : 0 < c) (w : World) : Calls Try.prog 78 #[PV x y z, PV u v t, PV a b c] w (VP (.bool (btwS x y z u v t a b c)) w) := by
  have T0 : ArgsB w (((w.alloc (.cells #[.int .u64 (ww3 x), .int .u64 (ww2 x), .int .u64 (ww1 x), .int .u64 (ww0 x), .int .u64 (ww3 y), .int .u64 (ww2 y), .int .u64 (ww1 y), .int .u64 (ww0 y), .int .u64 (ww3 z), .int .u64 (ww2 z), .int .u64 (ww1 z), .int .u64 (ww0 z)] 30)).alloc (.cells #[.int .u64 (ww3 u), .int .u64 (ww2 u), .int .u64 (ww1 u), .int .u64 (ww0 u), .int .u64 (ww3 v), .int .u64 (ww2 v), .int .u64 (ww1 v), .int .u64 (ww0 v), .int .u64 (ww3 t), .int .u64 (ww2 t), .int .u64 (ww1 t), .int .u64 (ww0 t)] 30)).alloc (.cells #[.int .u64 (ww3 a), .int .u64 (ww2 a), .int .u64 (ww1 a), .int .u64 (ww0 a), .int .u64 (ww3 b), .int .u64 (ww2 b), .int .u64 (ww1 b), .int .u64 (ww0 b), .int .u64 (ww3 c), .int .u64 (ww2 c), .int .u64 (ww1 c), .int .u64 (ww0 c)] 30)) [[.int .u64 (ww3 x), .int .u64 (ww2 x), .int .u64 (ww1 x), .int .u64 (ww0 x), .int .u64 (ww3 y), .int .u64 (ww2 y), .int .u64 (ww1 y), .int .u64 (ww0 y), .int .u64 (ww3 z), .int .u64 (ww2 z), .int .u64 (ww1 z), .int .u64 (ww0 z)], [.int .u64 (ww3 u), .int .u64 (ww2 u), .int .u64 (ww1 u), .int .u64 (ww0 u), .int .u64 (ww3 v), .int .u64 (ww2 v), .int .u64 (ww1 v), .int .u64 (ww0 v), .int .u64 (ww3 t), .int .u64 (ww2 t), .int .u64 (ww1 t), .int .u64 (ww0 t)], [.int .u64 (ww3 a), .int .u64 (ww2 a), .int .u64 (ww1 a), .int .u64 (ww0 a), .int .u64 (ww3 b), .int .u64 (ww2 b), .int .u64 (ww1 b), .int .u64 (ww0 b), .int .u64 (ww3 c), .int .u64 (ww2 c), .int .u64 (ww1 c), .int .u64 (ww0 c)]] := ar3 _ _ _ _ _ _ w
  have C1 := turn_det x y z u v t a b c sx sy sz su sv st sa sb sc
  rw [turn_same] at C1
  have C2 := order_det x y z a b c sx sy sz sa sb sc
  have C3 := order_det a b c u v t sa sb sc su sv st
  have hw : IntKind.i64.wrap (ordI x y z a b c * ordI a b c u v t) = ordI x y z a b c * ordI a b c u v t := by
    rcases ord_in x y z a b c with h | h | h <;> rcases ord_in a b c u v t with k | k | k <;> rw [h, k] <;> decide
  have HO : Hid ((decide (turnI x y z u v t a b c = 0) && decide (0 ≤ ordI x y z a b c * ordI a b c u v t)) = btwS x y z u v t a b c) := btw_same x y z u v t a b c hz ht hc
  clear sx sy sz su sv st sa sb sc hz ht hc
  generalize btwS x y z u v t a b c = R at *
  generalize turnI x y z u v t a b c = o1 at *
  generalize ordI x y z a b c = o2 at *
  generalize ordI a b c u v t = o3 at *
  go_enter Try.func78, Try.ntmps78
  go_upto_region 1 with fail
  generalize (((w.alloc (.cells #[.int .u64 (ww3 x), .int .u64 (ww2 x), .int .u64 (ww1 x), .int .u64 (ww0 x), .int .u64 (ww3 y), .int .u64 (ww2 y), .int .u64 (ww1 y), .int .u64 (ww0 y), .int .u64 (ww3 z), .int .u64 (ww2 z), .int .u64 (ww1 z), .int .u64 (ww0 z)] 30)).alloc (.cells #[.int .u64 (ww3 u), .int .u64 (ww2 u), .int .u64 (ww1 u), .int .u64 (ww0 u), .int .u64 (ww3 v), .int .u64 (ww2 v), .int .u64 (ww1 v), .int .u64 (ww0 v), .int .u64 (ww3 t), .int .u64 (ww2 t), .int .u64 (ww1 t), .int .u64 (ww0 t)] 30)).alloc (.cells #[.int .u64 (ww3 a), .int .u64 (ww2 a), .int .u64 (ww1 a), .int .u64 (ww0 a), .int .u64 (ww3 b), .int .u64 (ww2 b), .int .u64 (ww1 b), .int .u64 (ww0 b), .int .u64 (ww3 c), .int .u64 (ww2 c), .int .u64 (ww1 c), .int .u64 (ww0 c)] 30)) = W at *
  by_cases h : o1 = 0
  · subst h
    have HR : Hid (decide (0 ≤ o2 * o3) = R) := by show _ = _; rw [← HO.out]; simp
    clear HO
    have tok1 : True := trivial
    go_region_held3 (fun w' => w'.cell? ⟨w.heap.size, 0, none⟩ = some (.int .u64 (ww3 x)) ∧ w'.cell? ⟨w.heap.size, 1, none⟩ = some (.int .u64 (ww2 x)) ∧ w'.cell? ⟨w.heap.size, 2, none⟩ = some (.int .u64 (ww1 x)) ∧ w'.cell? ⟨w.heap.size, 3, none⟩ = some (.int .u64 (ww0 x)) ∧ w'.cell? ⟨w.heap.size, 4, none⟩ = some (.int .u64 (ww3 y)) ∧ w'.cell? ⟨w.heap.size, 5, none⟩ = some (.int .u64 (ww2 y)) ∧ w'.cell? ⟨w.heap.size, 6, none⟩ = some (.int .u64 (ww1 y)) ∧ w'.cell? ⟨w.heap.size, 7, none⟩ = some (.int .u64 (ww0 y)) ∧ w'.cell? ⟨w.heap.size, 8, none⟩ = some (.int .u64 (ww3 z)) ∧ w'.cell? ⟨w.heap.size, 9, none⟩ = some (.int .u64 (ww2 z)) ∧ w'.cell? ⟨w.heap.size, 10, none⟩ = some (.int .u64 (ww1 z)) ∧ w'.cell? ⟨w.heap.size, 11, none⟩ = some (.int .u64 (ww0 z)) ∧ w'.cell? ⟨w.heap.size + 1, 0, none⟩ = some (.int .u64 (ww3 u)) ∧ w'.cell? ⟨w.heap.size + 1, 1, none⟩ = some (.int .u64 (ww2 u)) ∧ w'.cell? ⟨w.heap.size + 1, 2, none⟩ = some (.int .u64 (ww1 u)) ∧ w'.cell? ⟨w.heap.size + 1, 3, none⟩ = some (.int .u64 (ww0 u)) ∧ w'.cell? ⟨w.heap.size + 1, 4, none⟩ = some (.int .u64 (ww3 v)) ∧ w'.cell? ⟨w.heap.size + 1, 5, none⟩ = some (.int .u64 (ww2 v)) ∧ w'.cell? ⟨w.heap.size + 1, 6, none⟩ = some (.int .u64 (ww1 v)) ∧ w'.cell? ⟨w.heap.size + 1, 7, none⟩ = some (.int .u64 (ww0 v)) ∧ w'.cell? ⟨w.heap.size + 1, 8, none⟩ = some (.int .u64 (ww3 t)) ∧ w'.cell? ⟨w.heap.size + 1, 9, none⟩ = some (.int .u64 (ww2 t)) ∧ w'.cell? ⟨w.heap.size + 1, 10, none⟩ = some (.int .u64 (ww1 t)) ∧ w'.cell? ⟨w.heap.size + 1, 11, none⟩ = some (.int .u64 (ww0 t)) ∧ w'.cell? ⟨w.heap.size + 2, 0, none⟩ = some (.int .u64 (ww3 a)) ∧ w'.cell? ⟨w.heap.size + 2, 1, none⟩ = some (.int .u64 (ww2 a)) ∧ w'.cell? ⟨w.heap.size + 2, 2, none⟩ = some (.int .u64 (ww1 a)) ∧ w'.cell? ⟨w.heap.size + 2, 3, none⟩ = some (.int .u64 (ww0 a)) ∧ w'.cell? ⟨w.heap.size + 2, 4, none⟩ = some (.int .u64 (ww3 b)) ∧ w'.cell? ⟨w.heap.size + 2, 5, none⟩ = some (.int .u64 (ww2 b)) ∧ w'.cell? ⟨w.heap.size + 2, 6, none⟩ = some (.int .u64 (ww1 b)) ∧ w'.cell? ⟨w.heap.size + 2, 7, none⟩ = some (.int .u64 (ww0 b)) ∧ w'.cell? ⟨w.heap.size + 2, 8, none⟩ = some (.int .u64 (ww3 c)) ∧ w'.cell? ⟨w.heap.size + 2, 9, none⟩ = some (.int .u64 (ww2 c)) ∧ w'.cell? ⟨w.heap.size + 2, 10, none⟩ = some (.int .u64 (ww1 c)) ∧ w'.cell? ⟨w.heap.size + 2, 11, none⟩ = some (.int .u64 (ww0 c))) (first | (with_reducible exact b3_cells T0) | (with_reducible exact b3_cells T0.drew))
      (first
        | (go_at_call 76; refine (C1 _).mono ?_; rintro e v1 ⟨rfl, hB⟩; (first | (have T1 := T0.step hB) | (have T1 := T0.drew.step hB)); clear T0; have T0 := T1; clear T1; clear hB)
        | (go_at_call 74; have _t := tok1; refine (C2 _).mono ?_; rintro e v2 ⟨rfl, hB⟩; (first | (have T1 := T0.step hB) | (have T1 := T0.drew.step hB)); clear T0; have T0 := T1; clear T1; clear hB; clear tok1 _t)
        | (go_at_call 74; refine (C3 _).mono ?_; rintro e v3 ⟨rfl, hB⟩; (first | (have T1 := T0.step hB) | (have T1 := T0.drew.step hB)); clear T0; have T0 := T1; clear T1; clear hB))
    all_goals have HB := T0.below
    all_goals clear T0
    all_goals go_wp2
    all_goals go_ret
    all_goals exact ⟨by rw [← HR.out]; simp, by first | exact HB | exact HB.drew⟩
  · have ho : (o1 == 0) = false := beq_eq_false_iff_ne.2 h
    have HR : Hid (R = false) := by show _ = _; rw [← HO.out]; simp [h]
    clear HO h hw
    refine wp_region_held_drew (S := (fun w' => w'.cell? ⟨w.heap.size, 0, none⟩ = some (.int .u64 (ww3 x)) ∧ w'.cell? ⟨w.heap.size, 1, none⟩ = some (.int .u64 (ww2 x)) ∧ w'.cell? ⟨w.heap.size, 2, none⟩ = some (.int .u64 (ww1 x)) ∧ w'.cell? ⟨w.heap.size, 3, none⟩ = some (.int .u64 (ww0 x)) ∧ w'.cell? ⟨w.heap.size, 4, none⟩ = some (.int .u64 (ww3 y)) ∧ w'.cell? ⟨w.heap.size, 5, none⟩ = some (.int .u64 (ww2 y)) ∧ w'.cell? ⟨w.heap.size, 6, none⟩ = some (.int .u64 (ww1 y)) ∧ w'.cell? ⟨w.heap.size, 7, none⟩ = some (.int .u64 (ww0 y)) ∧ w'.cell? ⟨w.heap.size, 8, none⟩ = some (.int .u64 (ww3 z)) ∧ w'.cell? ⟨w.heap.size, 9, none⟩ = some (.int .u64 (ww2 z)) ∧ w'.cell? ⟨w.heap.size, 10, none⟩ = some (.int .u64 (ww1 z)) ∧ w'.cell? ⟨w.heap.size, 11, none⟩ = some (.int .u64 (ww0 z)) ∧ w'.cell? ⟨w.heap.size + 1, 0, none⟩ = some (.int .u64 (ww3 u)) ∧ w'.cell? ⟨w.heap.size + 1, 1, none⟩ = some (.int .u64 (ww2 u)) ∧ w'.cell? ⟨w.heap.size + 1, 2, none⟩ = some (.int .u64 (ww1 u)) ∧ w'.cell? ⟨w.heap.size + 1, 3, none⟩ = some (.int .u64 (ww0 u)) ∧ w'.cell? ⟨w.heap.size + 1, 4, none⟩ = some (.int .u64 (ww3 v)) ∧ w'.cell? ⟨w.heap.size + 1, 5, none⟩ = some (.int .u64 (ww2 v)) ∧ w'.cell? ⟨w.heap.size + 1, 6, none⟩ = some (.int .u64 (ww1 v)) ∧ w'.cell? ⟨w.heap.size + 1, 7, none⟩ = some (.int .u64 (ww0 v)) ∧ w'.cell? ⟨w.heap.size + 1, 8, none⟩ = some (.int .u64 (ww3 t)) ∧ w'.cell? ⟨w.heap.size + 1, 9, none⟩ = some (.int .u64 (ww2 t)) ∧ w'.cell? ⟨w.heap.size + 1, 10, none⟩ = some (.int .u64 (ww1 t)) ∧ w'.cell? ⟨w.heap.size + 1, 11, none⟩ = some (.int .u64 (ww0 t)) ∧ w'.cell? ⟨w.heap.size + 2, 0, none⟩ = some (.int .u64 (ww3 a)) ∧ w'.cell? ⟨w.heap.size + 2, 1, none⟩ = some (.int .u64 (ww2 a)) ∧ w'.cell? ⟨w.heap.size + 2, 2, none⟩ = some (.int .u64 (ww1 a)) ∧ w'.cell? ⟨w.heap.size + 2, 3, none⟩ = some (.int .u64 (ww0 a)) ∧ w'.cell? ⟨w.heap.size + 2, 4, none⟩ = some (.int .u64 (ww3 b)) ∧ w'.cell? ⟨w.heap.size + 2, 5, none⟩ = some (.int .u64 (ww2 b)) ∧ w'.cell? ⟨w.heap.size + 2, 6, none⟩ = some (.int .u64 (ww1 b)) ∧ w'.cell? ⟨w.heap.size + 2, 7, none⟩ = some (.int .u64 (ww0 b)) ∧ w'.cell? ⟨w.heap.size + 2, 8, none⟩ = some (.int .u64 (ww3 c)) ∧ w'.cell? ⟨w.heap.size + 2, 9, none⟩ = some (.int .u64 (ww2 c)) ∧ w'.cell? ⟨w.heap.size + 2, 10, none⟩ = some (.int .u64 (ww1 c)) ∧ w'.cell? ⟨w.heap.size + 2, 11, none⟩ = some (.int .u64 (ww0 c)))) (by kernel_rfl) (b3_cells T0.drew) (fun hHeld => ?_)
    refine wpAnyH_take (i := 0) (v := PV x y z) rfl (by kernel_rfl) (by kernel_rfl) (by kernel_rfl) (fun _ _ _ h => h) (Or.inl ⟨by kernel_rfl, ?_⟩) (by assumption) ?_
    · intro w hSw
      (try dsimp only at hSw)
      go_simp
    refine wpAnyH_take (i := 1) (v := PV u v t) rfl (by kernel_rfl) (by kernel_rfl) (by kernel_rfl) (fun _ _ _ h => h) (Or.inl ⟨by kernel_rfl, ?_⟩) (by assumption) ?_
    · intro w hSw
      (try dsimp only at hSw)
      go_simp
    refine wpAnyH_take (i := 2) (v := PV a b c) rfl (by kernel_rfl) (by kernel_rfl) (by kernel_rfl) (fun _ _ _ h => h) (Or.inl ⟨by kernel_rfl, ?_⟩) (by assumption) ?_
    · intro w hSw
      (try dsimp only at hSw)
      go_simp
    refine wpAnyH_ready (rs := [3]) (by kernel_rfl) (by simp) ?_
    refine AllReadyH.cons rfl (fun K hK => ?_) AllReadyH.nil
    go_simp
    go_wp2_with (go_at_call 76; refine (C1 _).mono ?_; rintro e v1 ⟨rfl, hB⟩; (first | (have T1 := T0.step hB) | (have T1 := T0.drew.step hB)); clear T0; have T0 := T1; clear T1; clear hB)
    clear hHeld
    refine hK.out _ _ (b3_cells T0) (fun hHeld => ?_)
    clear hK
    refine wpAnyH_take (i := 4) (v := .bool false) rfl (by kernel_rfl) (by kernel_rfl) (by kernel_rfl) (fun _ _ _ h => h) (Or.inl ⟨by kernel_rfl, ?_⟩) (by assumption) ?_
    · intro w hSw
      (try dsimp only at hSw)
      go_simp
    refine wpAnyH_take (i := 5) (v := .bool false) rfl (by kernel_rfl) (by kernel_rfl) (by kernel_rfl) (fun _ _ _ h => h) (Or.inl ⟨by kernel_rfl, ?_⟩) (by assumption) ?_
    · intro w hSw
      (try dsimp only at hSw)
      go_simp
    refine wpAnyH_take (i := 6) (v := undef) rfl (by kernel_rfl) (by kernel_rfl) (by kernel_rfl) (fun _ _ _ h => h) (Or.inr ⟨by kernel_rfl, rfl⟩) (by assumption) ?_
    refine wpAnyH_take (i := 7) (v := undef) rfl (by kernel_rfl) (by kernel_rfl) (by kernel_rfl) (fun _ _ _ h => h) (Or.inr ⟨by kernel_rfl, rfl⟩) (by assumption) ?_
    refine wpAnyH_take (i := 8) (v := undef) rfl (by kernel_rfl) (by kernel_rfl) (by kernel_rfl) (fun _ _ _ h => h) (Or.inr ⟨by kernel_rfl, rfl⟩) (by assumption) ?_
    refine wpAnyH_take (i := 9) (v := undef) rfl (by kernel_rfl) (by kernel_rfl) (by kernel_rfl) (fun _ _ _ h => h) (Or.inr ⟨by kernel_rfl, rfl⟩) (by assumption) ?_
    refine wpAnyH_take (i := 10) (v := undef) rfl (by kernel_rfl) (by kernel_rfl) (by kernel_rfl) (fun _ _ _ h => h) (Or.inr ⟨by kernel_rfl, rfl⟩) (by assumption) ?_
    refine wpAnyH_take (i := 11) (v := undef) rfl (by kernel_rfl) (by kernel_rfl) (by kernel_rfl) (fun _ _ _ h => h) (Or.inr ⟨by kernel_rfl, rfl⟩) (by assumption) ?_
    refine wpAnyH_take (i := 12) (v := undef) rfl (by kernel_rfl) (by kernel_rfl) (by kernel_rfl) (fun _ _ _ h => h) (Or.inr ⟨by kernel_rfl, rfl⟩) (by assumption) ?_
    refine wpAnyH_take (i := 13) (v := undef) rfl (by kernel_rfl) (by kernel_rfl) (by kernel_rfl) (fun _ _ _ h => h) (Or.inr ⟨by kernel_rfl, rfl⟩) (by assumption) ?_
    refine wpAnyH_ready (rs := [14]) (by kernel_rfl) (by simp) ?_
    refine AllReadyH.cons rfl (fun K hK => ?_) AllReadyH.nil
    go_simp
    refine hK.out _ _ (by assumption) (fun _ => ?_)
    clear hK
    refine wpAnyH_ready (rs := [15]) (by kernel_rfl) (by simp) ?_
    refine AllReadyH.cons rfl (fun K hK => ?_) AllReadyH.nil
    go_simp
    refine hK.out _ _ (by assumption) (fun _ => ?_)
    clear hK
    refine wpAnyH_done (by kernel_rfl) ?_ _
    have HB := T0.below
    clear T0
    go_wp2
    go_ret
    exact ⟨by rw [HR.out]; rfl, by first | exact HB | exact HB.drew⟩
end Go.Proofs.Ytppbfdpdcgjfcaa

/- What lies between two points: the model's walk, and both sides. -/
namespace Go.Proofs.Ytppbfdpdcgjfcaa
open Go.RowKit
theorem swap_args {ps1 ps2 ps3 : Bool} {po1 po2 po3 : Option Addr} {pn1 pc1 pn2 pc2 pn3 pc3 : Nat} {qs1 qs2 qs3 : Bool} {qo1 qo2 qo3 : Option Addr} {qn1 qc1 qn2 qc2 qn3 qc3 : Nat} {rs1 rs2 rs3 : Bool} {ro1 ro2 ro3 : Option Addr} {rn1 rc1 rn2 rc2 rn3 rc3 : Nat} {w W : World} (T0 : ArgsB w W [[.bool ps1, .slice po1 pn1 pc1, .bool ps2, .slice po2 pn2 pc2, .bool ps3, .slice po3 pn3 pc3], [.bool qs1, .slice qo1 qn1 qc1, .bool qs2, .slice qo2 qn2 qc2, .bool qs3, .slice qo3 qn3 qc3], [.bool rs1, .slice ro1 rn1 rc1, .bool rs2, .slice ro2 rn2 rc2, .bool rs3, .slice ro3 rn3 rc3]]) : ArgsB w ((((((((((((W.setCell ⟨w.heap.size, 0, none⟩ (.bool qs1)).setCell ⟨w.heap.size, 1, none⟩ (.slice qo1 qn1 qc1)).setCell ⟨w.heap.size, 2, none⟩ (.bool qs2)).setCell ⟨w.heap.size, 3, none⟩ (.slice qo2 qn2 qc2)).setCell ⟨w.heap.size, 4, none⟩ (.bool qs3)).setCell ⟨w.heap.size, 5, none⟩ (.slice qo3 qn3 qc3)).setCell ⟨w.heap.size + 1, 0, none⟩ (.bool ps1)).setCell ⟨w.heap.size + 1, 1, none⟩ (.slice po1 pn1 pc1)).setCell ⟨w.heap.size + 1, 2, none⟩ (.bool ps2)).setCell ⟨w.heap.size + 1, 3, none⟩ (.slice po2 pn2 pc2)).setCell ⟨w.heap.size + 1, 4, none⟩ (.bool ps3)).setCell ⟨w.heap.size + 1, 5, none⟩ (.slice po3 pn3 pc3)) [[.bool qs1, .slice qo1 qn1 qc1, .bool qs2, .slice qo2 qn2 qc2, .bool qs3, .slice qo3 qn3 qc3], [.bool ps1, .slice po1 pn1 pc1, .bool ps2, .slice po2 pn2 pc2, .bool ps3, .slice po3 pn3 pc3], [.bool rs1, .slice ro1 rn1 rc1, .bool rs2, .slice ro2 rn2 rc2, .bool rs3, .slice ro3 rn3 rc3]] := by
  have X0 : Blk W w.heap.size [.bool ps1, .slice po1 pn1 pc1, .bool ps2, .slice po2 pn2 pc2, .bool ps3, .slice po3 pn3 pc3] := T0.b 0 rfl
  have Y0 : Blk W (w.heap.size + 1) [.bool qs1, .slice qo1 qn1 qc1, .bool qs2, .slice qo2 qn2 qc2, .bool qs3, .slice qo3 qn3 qc3] := T0.b 1 rfl
  have Z0 : Blk W (w.heap.size + 2) [.bool rs1, .slice ro1 rn1 rc1, .bool rs2, .slice ro2 rn2 rc2, .bool rs3, .slice ro3 rn3 rc3] := T0.b 2 rfl
  have X1 := ((((((X0.setI 0 (by simp) (.bool qs1)).setI 1 (by simp) (.slice qo1 qn1 qc1)).setI 2 (by simp) (.bool qs2)).setI 3 (by simp) (.slice qo2 qn2 qc2)).setI 4 (by simp) (.bool qs3)).setI 5 (by simp) (.slice qo3 qn3 qc3))
  simp only [List.set_cons_zero, List.set_cons_succ] at X1
  have X2 := ((((((X1.setO (p := ⟨w.heap.size + 1, 0, none⟩) (by show w.heap.size ≠ w.heap.size + 1; omega) (.bool ps1)).setO (p := ⟨w.heap.size + 1, 1, none⟩) (by show w.heap.size ≠ w.heap.size + 1; omega) (.slice po1 pn1 pc1)).setO (p := ⟨w.heap.size + 1, 2, none⟩) (by show w.heap.size ≠ w.heap.size + 1; omega) (.bool ps2)).setO (p := ⟨w.heap.size + 1, 3, none⟩) (by show w.heap.size ≠ w.heap.size + 1; omega) (.slice po2 pn2 pc2)).setO (p := ⟨w.heap.size + 1, 4, none⟩) (by show w.heap.size ≠ w.heap.size + 1; omega) (.bool ps3)).setO (p := ⟨w.heap.size + 1, 5, none⟩) (by show w.heap.size ≠ w.heap.size + 1; omega) (.slice po3 pn3 pc3))
  have Y1 := ((((((Y0.setO (p := ⟨w.heap.size, 0, none⟩) (by show w.heap.size + 1 ≠ w.heap.size; omega) (.bool qs1)).setO (p := ⟨w.heap.size, 1, none⟩) (by show w.heap.size + 1 ≠ w.heap.size; omega) (.slice qo1 qn1 qc1)).setO (p := ⟨w.heap.size, 2, none⟩) (by show w.heap.size + 1 ≠ w.heap.size; omega) (.bool qs2)).setO (p := ⟨w.heap.size, 3, none⟩) (by show w.heap.size + 1 ≠ w.heap.size; omega) (.slice qo2 qn2 qc2)).setO (p := ⟨w.heap.size, 4, none⟩) (by show w.heap.size + 1 ≠ w.heap.size; omega) (.bool qs3)).setO (p := ⟨w.heap.size, 5, none⟩) (by show w.heap.size + 1 ≠ w.heap.size; omega) (.slice qo3 qn3 qc3))
  have Y2 := ((((((Y1.setI 0 (by simp) (.bool ps1)).setI 1 (by simp) (.slice po1 pn1 pc1)).setI 2 (by simp) (.bool ps2)).setI 3 (by simp) (.slice po2 pn2 pc2)).setI 4 (by simp) (.bool ps3)).setI 5 (by simp) (.slice po3 pn3 pc3))
  simp only [List.set_cons_zero, List.set_cons_succ] at Y2
  have Z1 := ((((((Z0.setO (p := ⟨w.heap.size, 0, none⟩) (by show w.heap.size + 2 ≠ w.heap.size; omega) (.bool qs1)).setO (p := ⟨w.heap.size, 1, none⟩) (by show w.heap.size + 2 ≠ w.heap.size; omega) (.slice qo1 qn1 qc1)).setO (p := ⟨w.heap.size, 2, none⟩) (by show w.heap.size + 2 ≠ w.heap.size; omega) (.bool qs2)).setO (p := ⟨w.heap.size, 3, none⟩) (by show w.heap.size + 2 ≠ w.heap.size; omega) (.slice qo2 qn2 qc2)).setO (p := ⟨w.heap.size, 4, none⟩) (by show w.heap.size + 2 ≠ w.heap.size; omega) (.bool qs3)).setO (p := ⟨w.heap.size, 5, none⟩) (by show w.heap.size + 2 ≠ w.heap.size; omega) (.slice qo3 qn3 qc3))
  have Z2 := ((((((Z1.setO (p := ⟨w.heap.size + 1, 0, none⟩) (by show w.heap.size + 2 ≠ w.heap.size + 1; omega) (.bool ps1)).setO (p := ⟨w.heap.size + 1, 1, none⟩) (by show w.heap.size + 2 ≠ w.heap.size + 1; omega) (.slice po1 pn1 pc1)).setO (p := ⟨w.heap.size + 1, 2, none⟩) (by show w.heap.size + 2 ≠ w.heap.size + 1; omega) (.bool ps2)).setO (p := ⟨w.heap.size + 1, 3, none⟩) (by show w.heap.size + 2 ≠ w.heap.size + 1; omega) (.slice po2 pn2 pc2)).setO (p := ⟨w.heap.size + 1, 4, none⟩) (by show w.heap.size + 2 ≠ w.heap.size + 1; omega) (.bool ps3)).setO (p := ⟨w.heap.size + 1, 5, none⟩) (by show w.heap.size + 2 ≠ w.heap.size + 1; omega) (.slice po3 pn3 pc3))
  refine ⟨?_, fun j vs hj => ?_⟩
  · repeat' (refine Below.setCell ?_ (by simp) _)
    exact T0.below
  · match j, hj with
    | 0, hj => cases hj; exact X2
    | 1, hj => cases hj; exact Y2
    | 2, hj => cases hj; exact Z2
    | j + 3, hj => simp at hj
theorem num_set6g {w : World} {s : Bool} {ao : Option Addr} {n cap : Nat} {ds : List Int} {z : Int} {k R : Nat} (h : IsNum w s ao n cap ds z k) {qs1 qs2 qs3 : Bool} {qo1 qo2 qo3 : Option Addr} {qn1 qc1 qn2 qc2 qn3 qc3 : Nat} (B : Blk w R [.bool qs1, .slice qo1 qn1 qc1, .bool qs2, .slice qo2 qn2 qc2, .bool qs3, .slice qo3 qn3 qc3]) (v0 v1 v2 v3 v4 v5 : Value) : IsNum ((((((w.setCell ⟨R, 0, none⟩ v0).setCell ⟨R, 1, none⟩ v1).setCell ⟨R, 2, none⟩ v2).setCell ⟨R, 3, none⟩ v3).setCell ⟨R, 4, none⟩ v4).setCell ⟨R, 5, none⟩ v5) s ao n cap ds z k := by
  have h1 := h.setp v0 (B.c 0 rfl) (by intro x e; cases e)
  have B1 := B.setI 0 (by simp) v0
  have h2 := h1.setp v1 (B1.c 1 rfl) (by intro x e; cases e)
  have B2 := B1.setI 1 (by simp) v1
  have h3 := h2.setp v2 (B2.c 2 rfl) (by intro x e; cases e)
  have B3 := B2.setI 2 (by simp) v2
  have h4 := h3.setp v3 (B3.c 3 rfl) (by intro x e; cases e)
  have B4 := B3.setI 3 (by simp) v3
  have h5 := h4.setp v4 (B4.c 4 rfl) (by intro x e; cases e)
  have B5 := B4.setI 4 (by simp) v4
  exact h5.setp v5 (B5.c 5 rfl) (by intro x e; cases e)
theorem swap_num {w W : World} {s : Bool} {ao : Option Addr} {n cap : Nat} {ds : List Int} {z : Int} {k : Nat} (h : IsNum W s ao n cap ds z k) {ps1 ps2 ps3 : Bool} {po1 po2 po3 : Option Addr} {pn1 pc1 pn2 pc2 pn3 pc3 : Nat} {qs1 qs2 qs3 : Bool} {qo1 qo2 qo3 : Option Addr} {qn1 qc1 qn2 qc2 qn3 qc3 : Nat} {rs1 rs2 rs3 : Bool} {ro1 ro2 ro3 : Option Addr} {rn1 rc1 rn2 rc2 rn3 rc3 : Nat} (T0 : ArgsB w W [[.bool ps1, .slice po1 pn1 pc1, .bool ps2, .slice po2 pn2 pc2, .bool ps3, .slice po3 pn3 pc3], [.bool qs1, .slice qo1 qn1 qc1, .bool qs2, .slice qo2 qn2 qc2, .bool qs3, .slice qo3 qn3 qc3], [.bool rs1, .slice ro1 rn1 rc1, .bool rs2, .slice ro2 rn2 rc2, .bool rs3, .slice ro3 rn3 rc3]]) : IsNum ((((((((((((W.setCell ⟨w.heap.size, 0, none⟩ (.bool qs1)).setCell ⟨w.heap.size, 1, none⟩ (.slice qo1 qn1 qc1)).setCell ⟨w.heap.size, 2, none⟩ (.bool qs2)).setCell ⟨w.heap.size, 3, none⟩ (.slice qo2 qn2 qc2)).setCell ⟨w.heap.size, 4, none⟩ (.bool qs3)).setCell ⟨w.heap.size, 5, none⟩ (.slice qo3 qn3 qc3)).setCell ⟨w.heap.size + 1, 0, none⟩ (.bool ps1)).setCell ⟨w.heap.size + 1, 1, none⟩ (.slice po1 pn1 pc1)).setCell ⟨w.heap.size + 1, 2, none⟩ (.bool ps2)).setCell ⟨w.heap.size + 1, 3, none⟩ (.slice po2 pn2 pc2)).setCell ⟨w.heap.size + 1, 4, none⟩ (.bool ps3)).setCell ⟨w.heap.size + 1, 5, none⟩ (.slice po3 pn3 pc3)) s ao n cap ds z k := by
  have X0 : Blk W w.heap.size [.bool ps1, .slice po1 pn1 pc1, .bool ps2, .slice po2 pn2 pc2, .bool ps3, .slice po3 pn3 pc3] := T0.b 0 rfl
  have Y0 : Blk W (w.heap.size + 1) [.bool qs1, .slice qo1 qn1 qc1, .bool qs2, .slice qo2 qn2 qc2, .bool qs3, .slice qo3 qn3 qc3] := T0.b 1 rfl
  have Y1 := ((((((Y0.setO (p := ⟨w.heap.size, 0, none⟩) (by show w.heap.size + 1 ≠ w.heap.size; omega) (.bool qs1)).setO (p := ⟨w.heap.size, 1, none⟩) (by show w.heap.size + 1 ≠ w.heap.size; omega) (.slice qo1 qn1 qc1)).setO (p := ⟨w.heap.size, 2, none⟩) (by show w.heap.size + 1 ≠ w.heap.size; omega) (.bool qs2)).setO (p := ⟨w.heap.size, 3, none⟩) (by show w.heap.size + 1 ≠ w.heap.size; omega) (.slice qo2 qn2 qc2)).setO (p := ⟨w.heap.size, 4, none⟩) (by show w.heap.size + 1 ≠ w.heap.size; omega) (.bool qs3)).setO (p := ⟨w.heap.size, 5, none⟩) (by show w.heap.size + 1 ≠ w.heap.size; omega) (.slice qo3 qn3 qc3))
  exact num_set6g (num_set6g h X0 _ _ _ _ _ _) Y1 _ _ _ _ _ _
set_option maxRecDepth 100000 in
set_option maxHeartbeats 8000000 in
theorem l3Between_any (ps1 ps2 ps3 : Bool) (po1 po2 po3 : Option Addr) (pn1 pc1 pn2 pc2 pn3 pc3 : Nat) (qs1 qs2 qs3 : Bool) (qo1 qo2 qo3 : Option Addr) (qn1 qc1 qn2 qc2 qn3 qc3 : Nat) (rs1 rs2 rs3 : Bool) (ro1 ro2 ro3 : Option Addr) (rn1 rc1 rn2 rc2 rn3 rc3 : Nat) (pd1 pd2 pd3 qd1 qd2 qd3 rd1 rd2 rd3 : List Int) (x y z u v t a b c : Int) (k : Nat) (hk : k ≤ 1000) (w : World) (Np1 : IsNum w ps1 po1 pn1 pc1 pd1 x k) (Np2 : IsNum w ps2 po2 pn2 pc2 pd2 y k) (Np3 : IsNum w ps3 po3 pn3 pc3 pd3 z k) (Nq1 : IsNum w qs1 qo1 qn1 qc1 qd1 u k) (Nq2 : IsNum w qs2 qo2 qn2 qc2 qd2 v k) (Nq3 : IsNum w qs3 qo3 qn3 qc3 qd3 t k) (Nr1 : IsNum w rs1 ro1 rn1 rc1 rd1 a k) (Nr2 : IsNum w rs2 ro2 rn2 rc2 rd2 b k) (Nr3 : IsNum w rs3 ro3 rn3 rc3 rd3 c k) : Calls Try.prog 77 #[.agg #[.bool ps1, .slice po1 pn1 pc1, .bool ps2, .slice po2 pn2 pc2, .bool ps3, .slice po3 pn3 pc3], .agg #[.bool qs1, .slice qo1 qn1 qc1, .bool qs2, .slice qo2 qn2 qc2, .bool qs3, .slice qo3 qn3 qc3], .agg #[.bool rs1, .slice ro1 rn1 rc1, .bool rs2, .slice ro2 rn2 rc2, .bool rs3, .slice ro3 rn3 rc3]] w (VP (.bool (btwS x y z u v t a b c)) w) := by
  have T0 : ArgsB w (((w.alloc (.cells #[.bool ps1, .slice po1 pn1 pc1, .bool ps2, .slice po2 pn2 pc2, .bool ps3, .slice po3 pn3 pc3] 84)).alloc (.cells #[.bool qs1, .slice qo1 qn1 qc1, .bool qs2, .slice qo2 qn2 qc2, .bool qs3, .slice qo3 qn3 qc3] 84)).alloc (.cells #[.bool rs1, .slice ro1 rn1 rc1, .bool rs2, .slice ro2 rn2 rc2, .bool rs3, .slice ro3 rn3 rc3] 84)) [[.bool ps1, .slice po1 pn1 pc1, .bool ps2, .slice po2 pn2 pc2, .bool ps3, .slice po3 pn3 pc3], [.bool qs1, .slice qo1 qn1 qc1, .bool qs2, .slice qo2 qn2 qc2, .bool qs3, .slice qo3 qn3 qc3], [.bool rs1, .slice ro1 rn1 rc1, .bool rs2, .slice ro2 rn2 rc2, .bool rs3, .slice ro3 rn3 rc3]] := ar3 _ _ _ _ _ _ w
  replace Np1 := Np1.below T0.below
  replace Np2 := Np2.below T0.below
  replace Np3 := Np3.below T0.below
  replace Nq1 := Nq1.below T0.below
  replace Nq2 := Nq2.below T0.below
  replace Nq3 := Nq3.below T0.below
  replace Nr1 := Nr1.below T0.below
  replace Nr2 := Nr2.below T0.below
  replace Nr3 := Nr3.below T0.below
  go_enter Try.func77, Try.ntmps77
  go_wp2_with fail
  generalize (((w.alloc (.cells #[.bool ps1, .slice po1 pn1 pc1, .bool ps2, .slice po2 pn2 pc2, .bool ps3, .slice po3 pn3 pc3] 84)).alloc (.cells #[.bool qs1, .slice qo1 qn1 qc1, .bool qs2, .slice qo2 qn2 qc2, .bool qs3, .slice qo3 qn3 qc3] 84)).alloc (.cells #[.bool rs1, .slice ro1 rn1 rc1, .bool rs2, .slice ro2 rn2 rc2, .bool rs3, .slice ro3 rn3 rc3] 84)) = W at *
  refine (l3Cmp_any ps1 ps2 ps3 po1 po2 po3 pn1 pc1 pn2 pc2 pn3 pc3 qs1 qs2 qs3 qo1 qo2 qo3 qn1 qc1 qn2 qc2 qn3 qc3 pd1 pd2 pd3 qd1 qd2 qd3 x y z u v t k hk _ Np1 Np2 Np3 Nq1 Nq2 Nq3).mono ?_
  rintro e w1 ⟨rfl, hB⟩
  replace T0 := T0.step hB
  replace Np1 := Np1.below hB
  replace Np2 := Np2.below hB
  replace Np3 := Np3.below hB
  replace Nq1 := Nq1.below hB
  replace Nq2 := Nq2.below hB
  replace Nq3 := Nq3.below hB
  replace Nr1 := Nr1.below hB
  replace Nr2 := Nr2.below hB
  replace Nr3 := Nr3.below hB
  clear hB
  by_cases h1 : 0 < ordI x y z u v t
  · have d1 : decide (0 < ordI x y z u v t) = true := decide_eq_true h1
    have HC : (if 0 < ordI x y z u v t then decide (ordI u v t a b c ≤ 0) && decide (ordI a b c x y z ≤ 0) && decide (turnI u v t x y z a b c = 0) else decide (ordI x y z a b c ≤ 0) && decide (ordI a b c u v t ≤ 0) && decide (turnI x y z u v t a b c = 0)) = (decide (ordI u v t a b c ≤ 0) && decide (ordI a b c x y z ≤ 0) && decide (turnI u v t x y z a b c = 0)) := if_pos h1
    have X0 : Blk _ w.heap.size _ := T0.b 0 rfl
    have Y0 : Blk _ (w.heap.size + 1) _ := T0.b 1 rfl
    have p0 := X0.c 0 rfl; have pf0 := X0.f 0 rfl; have q0 := Y0.c 0 rfl; have qf0 := Y0.f 0 rfl; have p1 := X0.c 1 rfl; have pf1 := X0.f 1 rfl; have q1 := Y0.c 1 rfl; have qf1 := Y0.f 1 rfl; have p2 := X0.c 2 rfl; have pf2 := X0.f 2 rfl; have q2 := Y0.c 2 rfl; have qf2 := Y0.f 2 rfl; have p3 := X0.c 3 rfl; have pf3 := X0.f 3 rfl; have q3 := Y0.c 3 rfl; have qf3 := Y0.f 3 rfl; have p4 := X0.c 4 rfl; have pf4 := X0.f 4 rfl; have q4 := Y0.c 4 rfl; have qf4 := Y0.f 4 rfl; have p5 := X0.c 5 rfl; have pf5 := X0.f 5 rfl; have q5 := Y0.c 5 rfl; have qf5 := Y0.f 5 rfl
    have xl := X0.lt; have yl := Y0.lt
    go_upto_region 3 with fail
    clear p0 pf0 q0 qf0 p1 pf1 q1 qf1 p2 pf2 q2 qf2 p3 pf3 q3 qf3 p4 pf4 q4 qf4 p5 pf5 q5 qf5 xl yl X0 Y0
    replace Np1 := swap_num Np1 T0
    replace Np2 := swap_num Np2 T0
    replace Np3 := swap_num Np3 T0
    replace Nq1 := swap_num Nq1 T0
    replace Nq2 := swap_num Nq2 T0
    replace Nq3 := swap_num Nq3 T0
    replace Nr1 := swap_num Nr1 T0
    replace Nr2 := swap_num Nr2 T0
    replace Nr3 := swap_num Nr3 T0
    replace T0 := swap_args T0
    generalize ((((((((((((w1.setCell ⟨w.heap.size, 0, none⟩ (.bool qs1)).setCell ⟨w.heap.size, 1, none⟩ (.slice qo1 qn1 qc1)).setCell ⟨w.heap.size, 2, none⟩ (.bool qs2)).setCell ⟨w.heap.size, 3, none⟩ (.slice qo2 qn2 qc2)).setCell ⟨w.heap.size, 4, none⟩ (.bool qs3)).setCell ⟨w.heap.size, 5, none⟩ (.slice qo3 qn3 qc3)).setCell ⟨w.heap.size + 1, 0, none⟩ (.bool ps1)).setCell ⟨w.heap.size + 1, 1, none⟩ (.slice po1 pn1 pc1)).setCell ⟨w.heap.size + 1, 2, none⟩ (.bool ps2)).setCell ⟨w.heap.size + 1, 3, none⟩ (.slice po2 pn2 pc2)).setCell ⟨w.heap.size + 1, 4, none⟩ (.bool ps3)).setCell ⟨w.heap.size + 1, 5, none⟩ (.slice po3 pn3 pc3)) = W1 at *
    have X0 : Blk _ w.heap.size _ := T0.b 0 rfl; have Y0 : Blk _ (w.heap.size + 1) _ := T0.b 1 rfl; have Z0 : Blk _ (w.heap.size + 1 + 1) _ := T0.b 2 rfl; have p0 := X0.c 0 rfl; have q0 := Y0.c 0 rfl; have r0 := Z0.c 0 rfl; have p1 := X0.c 1 rfl; have q1 := Y0.c 1 rfl; have r1 := Z0.c 1 rfl; have p2 := X0.c 2 rfl; have q2 := Y0.c 2 rfl; have r2 := Z0.c 2 rfl; have p3 := X0.c 3 rfl; have q3 := Y0.c 3 rfl; have r3 := Z0.c 3 rfl; have p4 := X0.c 4 rfl; have q4 := Y0.c 4 rfl; have r4 := Z0.c 4 rfl; have p5 := X0.c 5 rfl; have q5 := Y0.c 5 rfl; have r5 := Z0.c 5 rfl; clear X0 Y0 Z0
    go_wp2_with fail
    refine (l3Cmp_any qs1 qs2 qs3 qo1 qo2 qo3 qn1 qc1 qn2 qc2 qn3 qc3 rs1 rs2 rs3 ro1 ro2 ro3 rn1 rc1 rn2 rc2 rn3 rc3 qd1 qd2 qd3 rd1 rd2 rd3 u v t a b c k hk _ Nq1 Nq2 Nq3 Nr1 Nr2 Nr3).mono ?_
    rintro e f1 ⟨rfl, hB⟩
    replace T0 := T0.step hB
    replace Np1 := Np1.below hB
    replace Np2 := Np2.below hB
    replace Np3 := Np3.below hB
    replace Nq1 := Nq1.below hB
    replace Nq2 := Nq2.below hB
    replace Nq3 := Nq3.below hB
    replace Nr1 := Nr1.below hB
    replace Nr2 := Nr2.below hB
    replace Nr3 := Nr3.below hB
    clear hB p0 q0 r0 p1 q1 r1 p2 q2 r2 p3 q3 r3 p4 q4 r4 p5 q5 r5
    by_cases h2 : ordI u v t a b c ≤ 0
    · have d2 : decide (ordI u v t a b c ≤ 0) = true := decide_eq_true h2
      have X0 : Blk _ w.heap.size _ := T0.b 0 rfl; have Y0 : Blk _ (w.heap.size + 1) _ := T0.b 1 rfl; have Z0 : Blk _ (w.heap.size + 1 + 1) _ := T0.b 2 rfl; have p0 := X0.c 0 rfl; have q0 := Y0.c 0 rfl; have r0 := Z0.c 0 rfl; have p1 := X0.c 1 rfl; have q1 := Y0.c 1 rfl; have r1 := Z0.c 1 rfl; have p2 := X0.c 2 rfl; have q2 := Y0.c 2 rfl; have r2 := Z0.c 2 rfl; have p3 := X0.c 3 rfl; have q3 := Y0.c 3 rfl; have r3 := Z0.c 3 rfl; have p4 := X0.c 4 rfl; have q4 := Y0.c 4 rfl; have r4 := Z0.c 4 rfl; have p5 := X0.c 5 rfl; have q5 := Y0.c 5 rfl; have r5 := Z0.c 5 rfl; clear X0 Y0 Z0
      go_wp2_with fail
      refine (l3Cmp_any rs1 rs2 rs3 ro1 ro2 ro3 rn1 rc1 rn2 rc2 rn3 rc3 ps1 ps2 ps3 po1 po2 po3 pn1 pc1 pn2 pc2 pn3 pc3 rd1 rd2 rd3 pd1 pd2 pd3 a b c x y z k hk _ Nr1 Nr2 Nr3 Np1 Np2 Np3).mono ?_
      rintro e f2 ⟨rfl, hB⟩
      replace T0 := T0.step hB
      replace Np1 := Np1.below hB
      replace Np2 := Np2.below hB
      replace Np3 := Np3.below hB
      replace Nq1 := Nq1.below hB
      replace Nq2 := Nq2.below hB
      replace Nq3 := Nq3.below hB
      replace Nr1 := Nr1.below hB
      replace Nr2 := Nr2.below hB
      replace Nr3 := Nr3.below hB
      clear hB p0 q0 r0 p1 q1 r1 p2 q2 r2 p3 q3 r3 p4 q4 r4 p5 q5 r5
      by_cases h3 : ordI a b c x y z ≤ 0
      · have d3 : decide (ordI a b c x y z ≤ 0) = true := decide_eq_true h3
        have X0 : Blk _ w.heap.size _ := T0.b 0 rfl; have Y0 : Blk _ (w.heap.size + 1) _ := T0.b 1 rfl; have Z0 : Blk _ (w.heap.size + 1 + 1) _ := T0.b 2 rfl; have p0 := X0.c 0 rfl; have q0 := Y0.c 0 rfl; have r0 := Z0.c 0 rfl; have p1 := X0.c 1 rfl; have q1 := Y0.c 1 rfl; have r1 := Z0.c 1 rfl; have p2 := X0.c 2 rfl; have q2 := Y0.c 2 rfl; have r2 := Z0.c 2 rfl; have p3 := X0.c 3 rfl; have q3 := Y0.c 3 rfl; have r3 := Z0.c 3 rfl; have p4 := X0.c 4 rfl; have q4 := Y0.c 4 rfl; have r4 := Z0.c 4 rfl; have p5 := X0.c 5 rfl; have q5 := Y0.c 5 rfl; have r5 := Z0.c 5 rfl; clear X0 Y0 Z0
        go_wp2_with fail
        refine (l3Orient_any qs1 qs2 qs3 qo1 qo2 qo3 qn1 qc1 qn2 qc2 qn3 qc3 ps1 ps2 ps3 po1 po2 po3 pn1 pc1 pn2 pc2 pn3 pc3 rs1 rs2 rs3 ro1 ro2 ro3 rn1 rc1 rn2 rc2 rn3 rc3 qd1 qd2 qd3 pd1 pd2 pd3 rd1 rd2 rd3 u v t x y z a b c k hk _ Nq1 Nq2 Nq3 Np1 Np2 Np3 Nr1 Nr2 Nr3).mono ?_
        rintro e f3 ⟨rfl, hB⟩
        have HB := (T0.step hB).below
        have HR : Hid (btwS x y z u v t a b c = (turnI u v t x y z a b c == 0)) := by
          show _ = _
          unfold btwS
          rw [HC]
          simp only [h2, h3, decide_true, Bool.true_and]
          rw [Bool.eq_iff_iff, decide_eq_true_iff, beq_iff_eq]
        clear hB T0 p0 q0 r0 p1 q1 r1 p2 q2 r2 p3 q3 r3 p4 q4 r4 p5 q5 r5 Np1 Np2 Np3 Nq1 Nq2 Nq3 Nr1 Nr2 Nr3 HC h2 h3
        go_wp2
        go_ret
        exact ⟨by rw [HR.out]; rfl, HB⟩
      · have d3 : decide (ordI a b c x y z ≤ 0) = false := decide_eq_false h3
        have HR : Hid (btwS x y z u v t a b c = false) := by show _ = _; unfold btwS; rw [HC]; simp [h3]
        have HB := T0.below
        clear T0 Np1 Np2 Np3 Nq1 Nq2 Nq3 Nr1 Nr2 Nr3 HC h2 h3
        go_wp2
        go_ret
        exact ⟨by rw [HR.out]; rfl, HB⟩
    · have d2 : decide (ordI u v t a b c ≤ 0) = false := decide_eq_false h2
      have HR : Hid (btwS x y z u v t a b c = false) := by show _ = _; unfold btwS; rw [HC]; simp [h2]
      have HB := T0.below
      clear T0 Np1 Np2 Np3 Nq1 Nq2 Nq3 Nr1 Nr2 Nr3 HC h2
      go_wp2
      go_ret
      exact ⟨by rw [HR.out]; rfl, HB⟩
  · have d1 : decide (0 < ordI x y z u v t) = false := decide_eq_false h1
    have HC : (if 0 < ordI x y z u v t then decide (ordI u v t a b c ≤ 0) && decide (ordI a b c x y z ≤ 0) && decide (turnI u v t x y z a b c = 0) else decide (ordI x y z a b c ≤ 0) && decide (ordI a b c u v t ≤ 0) && decide (turnI x y z u v t a b c = 0)) = (decide (ordI x y z a b c ≤ 0) && decide (ordI a b c u v t ≤ 0) && decide (turnI x y z u v t a b c = 0)) := if_neg h1
    have X0 : Blk _ w.heap.size _ := T0.b 0 rfl; have Y0 : Blk _ (w.heap.size + 1) _ := T0.b 1 rfl; have Z0 : Blk _ (w.heap.size + 1 + 1) _ := T0.b 2 rfl; have p0 := X0.c 0 rfl; have q0 := Y0.c 0 rfl; have r0 := Z0.c 0 rfl; have p1 := X0.c 1 rfl; have q1 := Y0.c 1 rfl; have r1 := Z0.c 1 rfl; have p2 := X0.c 2 rfl; have q2 := Y0.c 2 rfl; have r2 := Z0.c 2 rfl; have p3 := X0.c 3 rfl; have q3 := Y0.c 3 rfl; have r3 := Z0.c 3 rfl; have p4 := X0.c 4 rfl; have q4 := Y0.c 4 rfl; have r4 := Z0.c 4 rfl; have p5 := X0.c 5 rfl; have q5 := Y0.c 5 rfl; have r5 := Z0.c 5 rfl; clear X0 Y0 Z0
    go_wp2_with fail
    refine (l3Cmp_any ps1 ps2 ps3 po1 po2 po3 pn1 pc1 pn2 pc2 pn3 pc3 rs1 rs2 rs3 ro1 ro2 ro3 rn1 rc1 rn2 rc2 rn3 rc3 pd1 pd2 pd3 rd1 rd2 rd3 x y z a b c k hk _ Np1 Np2 Np3 Nr1 Nr2 Nr3).mono ?_
    rintro e f1 ⟨rfl, hB⟩
    replace T0 := T0.step hB
    replace Np1 := Np1.below hB
    replace Np2 := Np2.below hB
    replace Np3 := Np3.below hB
    replace Nq1 := Nq1.below hB
    replace Nq2 := Nq2.below hB
    replace Nq3 := Nq3.below hB
    replace Nr1 := Nr1.below hB
    replace Nr2 := Nr2.below hB
    replace Nr3 := Nr3.below hB
    clear hB p0 q0 r0 p1 q1 r1 p2 q2 r2 p3 q3 r3 p4 q4 r4 p5 q5 r5
    by_cases h2 : ordI x y z a b c ≤ 0
    · have d2 : decide (ordI x y z a b c ≤ 0) = true := decide_eq_true h2
      have X0 : Blk _ w.heap.size _ := T0.b 0 rfl; have Y0 : Blk _ (w.heap.size + 1) _ := T0.b 1 rfl; have Z0 : Blk _ (w.heap.size + 1 + 1) _ := T0.b 2 rfl; have p0 := X0.c 0 rfl; have q0 := Y0.c 0 rfl; have r0 := Z0.c 0 rfl; have p1 := X0.c 1 rfl; have q1 := Y0.c 1 rfl; have r1 := Z0.c 1 rfl; have p2 := X0.c 2 rfl; have q2 := Y0.c 2 rfl; have r2 := Z0.c 2 rfl; have p3 := X0.c 3 rfl; have q3 := Y0.c 3 rfl; have r3 := Z0.c 3 rfl; have p4 := X0.c 4 rfl; have q4 := Y0.c 4 rfl; have r4 := Z0.c 4 rfl; have p5 := X0.c 5 rfl; have q5 := Y0.c 5 rfl; have r5 := Z0.c 5 rfl; clear X0 Y0 Z0
      go_wp2_with fail
      refine (l3Cmp_any rs1 rs2 rs3 ro1 ro2 ro3 rn1 rc1 rn2 rc2 rn3 rc3 qs1 qs2 qs3 qo1 qo2 qo3 qn1 qc1 qn2 qc2 qn3 qc3 rd1 rd2 rd3 qd1 qd2 qd3 a b c u v t k hk _ Nr1 Nr2 Nr3 Nq1 Nq2 Nq3).mono ?_
      rintro e f2 ⟨rfl, hB⟩
      replace T0 := T0.step hB
      replace Np1 := Np1.below hB
      replace Np2 := Np2.below hB
      replace Np3 := Np3.below hB
      replace Nq1 := Nq1.below hB
      replace Nq2 := Nq2.below hB
      replace Nq3 := Nq3.below hB
      replace Nr1 := Nr1.below hB
      replace Nr2 := Nr2.below hB
      replace Nr3 := Nr3.below hB
      clear hB p0 q0 r0 p1 q1 r1 p2 q2 r2 p3 q3 r3 p4 q4 r4 p5 q5 r5
      by_cases h3 : ordI a b c u v t ≤ 0
      · have d3 : decide (ordI a b c u v t ≤ 0) = true := decide_eq_true h3
        have X0 : Blk _ w.heap.size _ := T0.b 0 rfl; have Y0 : Blk _ (w.heap.size + 1) _ := T0.b 1 rfl; have Z0 : Blk _ (w.heap.size + 1 + 1) _ := T0.b 2 rfl; have p0 := X0.c 0 rfl; have q0 := Y0.c 0 rfl; have r0 := Z0.c 0 rfl; have p1 := X0.c 1 rfl; have q1 := Y0.c 1 rfl; have r1 := Z0.c 1 rfl; have p2 := X0.c 2 rfl; have q2 := Y0.c 2 rfl; have r2 := Z0.c 2 rfl; have p3 := X0.c 3 rfl; have q3 := Y0.c 3 rfl; have r3 := Z0.c 3 rfl; have p4 := X0.c 4 rfl; have q4 := Y0.c 4 rfl; have r4 := Z0.c 4 rfl; have p5 := X0.c 5 rfl; have q5 := Y0.c 5 rfl; have r5 := Z0.c 5 rfl; clear X0 Y0 Z0
        go_wp2_with fail
        refine (l3Orient_any ps1 ps2 ps3 po1 po2 po3 pn1 pc1 pn2 pc2 pn3 pc3 qs1 qs2 qs3 qo1 qo2 qo3 qn1 qc1 qn2 qc2 qn3 qc3 rs1 rs2 rs3 ro1 ro2 ro3 rn1 rc1 rn2 rc2 rn3 rc3 pd1 pd2 pd3 qd1 qd2 qd3 rd1 rd2 rd3 x y z u v t a b c k hk _ Np1 Np2 Np3 Nq1 Nq2 Nq3 Nr1 Nr2 Nr3).mono ?_
        rintro e f3 ⟨rfl, hB⟩
        have HB := (T0.step hB).below
        have HR : Hid (btwS x y z u v t a b c = (turnI x y z u v t a b c == 0)) := by
          show _ = _
          unfold btwS
          rw [HC]
          simp only [h2, h3, decide_true, Bool.true_and]
          rw [Bool.eq_iff_iff, decide_eq_true_iff, beq_iff_eq]
        clear hB T0 p0 q0 r0 p1 q1 r1 p2 q2 r2 p3 q3 r3 p4 q4 r4 p5 q5 r5 Np1 Np2 Np3 Nq1 Nq2 Nq3 Nr1 Nr2 Nr3 HC h2 h3
        go_wp2
        go_ret
        exact ⟨by rw [HR.out]; rfl, HB⟩
      · have d3 : decide (ordI a b c u v t ≤ 0) = false := decide_eq_false h3
        have HR : Hid (btwS x y z u v t a b c = false) := by show _ = _; unfold btwS; rw [HC]; simp [h3]
        have HB := T0.below
        clear T0 Np1 Np2 Np3 Nq1 Nq2 Nq3 Nr1 Nr2 Nr3 HC h2 h3
        go_wp2
        go_ret
        exact ⟨by rw [HR.out]; rfl, HB⟩
    · have d2 : decide (ordI x y z a b c ≤ 0) = false := decide_eq_false h2
      have HR : Hid (btwS x y z u v t a b c = false) := by show _ = _; unfold btwS; rw [HC]; simp [h2]
      have HB := T0.below
      clear T0 Np1 Np2 Np3 Nq1 Nq2 Nq3 Nr1 Nr2 Nr3 HC h2
      go_wp2
      go_ret
      exact ⟨by rw [HR.out]; rfl, HB⟩
end Go.Proofs.Ytppbfdpdcgjfcaa

/- What lies between two points: both sides. -/
namespace Go.Proofs.Ytppbfdpdcgjfcaa
open Go.RowKit
/-- Whether the third point lies between the two; of points that are not right, no. -/
def btwV (x y z u v t a b c : Int) : Bool := ptB x y z && ptB u v t && ptB a b c && btwS x y z u v t a b c
set_option maxRecDepth 100000 in
set_option maxHeartbeats 4000000 in
theorem implBetween_det (x y z u v t a b c : Int) (hx : told x = true) (hy : told y = true) (hz : told z = true) (hu : told u = true) (hv : told v = true) (ht : told t = true) (ha : told a = true) (hb : told b = true) (hc : told c = true) (w : World) : Calls Try.prog 29 #[PV x y z, PV u v t, PV a b c] w (VP (.bool (btwV x y z u v t a b c)) w) := by
  have T0 : ArgsB w (((w.alloc (.cells #[.int .u64 (ww3 x), .int .u64 (ww2 x), .int .u64 (ww1 x), .int .u64 (ww0 x), .int .u64 (ww3 y), .int .u64 (ww2 y), .int .u64 (ww1 y), .int .u64 (ww0 y), .int .u64 (ww3 z), .int .u64 (ww2 z), .int .u64 (ww1 z), .int .u64 (ww0 z)] 30)).alloc (.cells #[.int .u64 (ww3 u), .int .u64 (ww2 u), .int .u64 (ww1 u), .int .u64 (ww0 u), .int .u64 (ww3 v), .int .u64 (ww2 v), .int .u64 (ww1 v), .int .u64 (ww0 v), .int .u64 (ww3 t), .int .u64 (ww2 t), .int .u64 (ww1 t), .int .u64 (ww0 t)] 30)).alloc (.cells #[.int .u64 (ww3 a), .int .u64 (ww2 a), .int .u64 (ww1 a), .int .u64 (ww0 a), .int .u64 (ww3 b), .int .u64 (ww2 b), .int .u64 (ww1 b), .int .u64 (ww0 b), .int .u64 (ww3 c), .int .u64 (ww2 c), .int .u64 (ww1 c), .int .u64 (ww0 c)] 30)) [[.int .u64 (ww3 x), .int .u64 (ww2 x), .int .u64 (ww1 x), .int .u64 (ww0 x), .int .u64 (ww3 y), .int .u64 (ww2 y), .int .u64 (ww1 y), .int .u64 (ww0 y), .int .u64 (ww3 z), .int .u64 (ww2 z), .int .u64 (ww1 z), .int .u64 (ww0 z)], [.int .u64 (ww3 u), .int .u64 (ww2 u), .int .u64 (ww1 u), .int .u64 (ww0 u), .int .u64 (ww3 v), .int .u64 (ww2 v), .int .u64 (ww1 v), .int .u64 (ww0 v), .int .u64 (ww3 t), .int .u64 (ww2 t), .int .u64 (ww1 t), .int .u64 (ww0 t)], [.int .u64 (ww3 a), .int .u64 (ww2 a), .int .u64 (ww1 a), .int .u64 (ww0 a), .int .u64 (ww3 b), .int .u64 (ww2 b), .int .u64 (ww1 b), .int .u64 (ww0 b), .int .u64 (ww3 c), .int .u64 (ww2 c), .int .u64 (ww1 c), .int .u64 (ww0 c)]] := ar3 _ _ _ _ _ _ w
  have R1 := pright_det x y z hx hy hz
  have R2 := pright_det u v t hu hv ht
  have R3 := pright_det a b c ha hb hc
  clear hx hy hz hu hv ht ha hb hc
  go_enter Try.func29, Try.ntmps29
  go_wp2_with fail
  generalize (((w.alloc (.cells #[.int .u64 (ww3 x), .int .u64 (ww2 x), .int .u64 (ww1 x), .int .u64 (ww0 x), .int .u64 (ww3 y), .int .u64 (ww2 y), .int .u64 (ww1 y), .int .u64 (ww0 y), .int .u64 (ww3 z), .int .u64 (ww2 z), .int .u64 (ww1 z), .int .u64 (ww0 z)] 30)).alloc (.cells #[.int .u64 (ww3 u), .int .u64 (ww2 u), .int .u64 (ww1 u), .int .u64 (ww0 u), .int .u64 (ww3 v), .int .u64 (ww2 v), .int .u64 (ww1 v), .int .u64 (ww0 v), .int .u64 (ww3 t), .int .u64 (ww2 t), .int .u64 (ww1 t), .int .u64 (ww0 t)] 30)).alloc (.cells #[.int .u64 (ww3 a), .int .u64 (ww2 a), .int .u64 (ww1 a), .int .u64 (ww0 a), .int .u64 (ww3 b), .int .u64 (ww2 b), .int .u64 (ww1 b), .int .u64 (ww0 b), .int .u64 (ww3 c), .int .u64 (ww2 c), .int .u64 (ww1 c), .int .u64 (ww0 c)] 30)) = W at *
  refine (R1 _).mono ?_
  rintro e w1 ⟨rfl, hB⟩
  replace T0 := T0.step hB
  clear hB
  by_cases h1 : ptB x y z = true
  · rw [h1]
    have X0 : Blk _ w.heap.size _ := T0.b 0 rfl; have Y0 : Blk _ (w.heap.size + 1) _ := T0.b 1 rfl; have Z0 : Blk _ (w.heap.size + 1 + 1) _ := T0.b 2 rfl; have p0 := X0.c 0 rfl; have q0 := Y0.c 0 rfl; have r0 := Z0.c 0 rfl; have p1 := X0.c 1 rfl; have q1 := Y0.c 1 rfl; have r1 := Z0.c 1 rfl; have p2 := X0.c 2 rfl; have q2 := Y0.c 2 rfl; have r2 := Z0.c 2 rfl; have p3 := X0.c 3 rfl; have q3 := Y0.c 3 rfl; have r3 := Z0.c 3 rfl; have p4 := X0.c 4 rfl; have q4 := Y0.c 4 rfl; have r4 := Z0.c 4 rfl; have p5 := X0.c 5 rfl; have q5 := Y0.c 5 rfl; have r5 := Z0.c 5 rfl; have p6 := X0.c 6 rfl; have q6 := Y0.c 6 rfl; have r6 := Z0.c 6 rfl; have p7 := X0.c 7 rfl; have q7 := Y0.c 7 rfl; have r7 := Z0.c 7 rfl; have p8 := X0.c 8 rfl; have q8 := Y0.c 8 rfl; have r8 := Z0.c 8 rfl; have p9 := X0.c 9 rfl; have q9 := Y0.c 9 rfl; have r9 := Z0.c 9 rfl; have p10 := X0.c 10 rfl; have q10 := Y0.c 10 rfl; have r10 := Z0.c 10 rfl; have p11 := X0.c 11 rfl; have q11 := Y0.c 11 rfl; have r11 := Z0.c 11 rfl; clear X0 Y0 Z0
    go_wp2_with fail
    refine (R2 _).mono ?_
    rintro e w2 ⟨rfl, hB⟩
    replace T0 := T0.step hB
    clear hB p0 q0 r0 p1 q1 r1 p2 q2 r2 p3 q3 r3 p4 q4 r4 p5 q5 r5 p6 q6 r6 p7 q7 r7 p8 q8 r8 p9 q9 r9 p10 q10 r10 p11 q11 r11
    by_cases h2 : ptB u v t = true
    · rw [h2]
      have X0 : Blk _ w.heap.size _ := T0.b 0 rfl; have Y0 : Blk _ (w.heap.size + 1) _ := T0.b 1 rfl; have Z0 : Blk _ (w.heap.size + 1 + 1) _ := T0.b 2 rfl; have p0 := X0.c 0 rfl; have q0 := Y0.c 0 rfl; have r0 := Z0.c 0 rfl; have p1 := X0.c 1 rfl; have q1 := Y0.c 1 rfl; have r1 := Z0.c 1 rfl; have p2 := X0.c 2 rfl; have q2 := Y0.c 2 rfl; have r2 := Z0.c 2 rfl; have p3 := X0.c 3 rfl; have q3 := Y0.c 3 rfl; have r3 := Z0.c 3 rfl; have p4 := X0.c 4 rfl; have q4 := Y0.c 4 rfl; have r4 := Z0.c 4 rfl; have p5 := X0.c 5 rfl; have q5 := Y0.c 5 rfl; have r5 := Z0.c 5 rfl; have p6 := X0.c 6 rfl; have q6 := Y0.c 6 rfl; have r6 := Z0.c 6 rfl; have p7 := X0.c 7 rfl; have q7 := Y0.c 7 rfl; have r7 := Z0.c 7 rfl; have p8 := X0.c 8 rfl; have q8 := Y0.c 8 rfl; have r8 := Z0.c 8 rfl; have p9 := X0.c 9 rfl; have q9 := Y0.c 9 rfl; have r9 := Z0.c 9 rfl; have p10 := X0.c 10 rfl; have q10 := Y0.c 10 rfl; have r10 := Z0.c 10 rfl; have p11 := X0.c 11 rfl; have q11 := Y0.c 11 rfl; have r11 := Z0.c 11 rfl; clear X0 Y0 Z0
      go_wp2_with fail
      refine (R3 _).mono ?_
      rintro e w3 ⟨rfl, hB⟩
      replace T0 := T0.step hB
      clear hB p0 q0 r0 p1 q1 r1 p2 q2 r2 p3 q3 r3 p4 q4 r4 p5 q5 r5 p6 q6 r6 p7 q7 r7 p8 q8 r8 p9 q9 r9 p10 q10 r10 p11 q11 r11
      by_cases h3 : ptB a b c = true
      · rw [h3]
        have HO : Hid (btwV x y z u v t a b c = btwS x y z u v t a b c) := by show _ = _; unfold btwV; rw [h1, h2, h3]; rfl
        obtain ⟨pz, sx, sy, sz⟩ := ptB_small h1
        obtain ⟨pt, su, sv, st⟩ := ptB_small h2
        obtain ⟨pc, sa, sb, sc⟩ := ptB_small h3
        have C := lies_det x y z u v t a b c sx sy sz su sv st sa sb sc pz pt pc
        clear h1 h2 h3 R1 R2 R3 pz pt pc sx sy sz su sv st sa sb sc
        generalize btwS x y z u v t a b c = o at *
        have X0 : Blk _ w.heap.size _ := T0.b 0 rfl; have Y0 : Blk _ (w.heap.size + 1) _ := T0.b 1 rfl; have Z0 : Blk _ (w.heap.size + 1 + 1) _ := T0.b 2 rfl; have p0 := X0.c 0 rfl; have q0 := Y0.c 0 rfl; have r0 := Z0.c 0 rfl; have p1 := X0.c 1 rfl; have q1 := Y0.c 1 rfl; have r1 := Z0.c 1 rfl; have p2 := X0.c 2 rfl; have q2 := Y0.c 2 rfl; have r2 := Z0.c 2 rfl; have p3 := X0.c 3 rfl; have q3 := Y0.c 3 rfl; have r3 := Z0.c 3 rfl; have p4 := X0.c 4 rfl; have q4 := Y0.c 4 rfl; have r4 := Z0.c 4 rfl; have p5 := X0.c 5 rfl; have q5 := Y0.c 5 rfl; have r5 := Z0.c 5 rfl; have p6 := X0.c 6 rfl; have q6 := Y0.c 6 rfl; have r6 := Z0.c 6 rfl; have p7 := X0.c 7 rfl; have q7 := Y0.c 7 rfl; have r7 := Z0.c 7 rfl; have p8 := X0.c 8 rfl; have q8 := Y0.c 8 rfl; have r8 := Z0.c 8 rfl; have p9 := X0.c 9 rfl; have q9 := Y0.c 9 rfl; have r9 := Z0.c 9 rfl; have p10 := X0.c 10 rfl; have q10 := Y0.c 10 rfl; have r10 := Z0.c 10 rfl; have p11 := X0.c 11 rfl; have q11 := Y0.c 11 rfl; have r11 := Z0.c 11 rfl; clear X0 Y0 Z0
        go_wp2_with fail
        refine (C _).mono ?_
        rintro e w4 ⟨rfl, hB⟩
        have HB := (T0.step hB).below
        clear hB T0 C p0 q0 r0 p1 q1 r1 p2 q2 r2 p3 q3 r3 p4 q4 r4 p5 q5 r5 p6 q6 r6 p7 q7 r7 p8 q8 r8 p9 q9 r9 p10 q10 r10 p11 q11 r11
        go_wp2
        go_ret
        exact ⟨by rw [HO.out]; rfl, HB⟩
      · replace h3 := Bool.eq_false_iff.2 h3
        rw [h3]
        have HO : Hid (btwV x y z u v t a b c = false) := by show _ = _; unfold btwV; rw [h3]; simp
        have HB := T0.below
        clear T0 h1 h2 h3 R1 R2 R3
        go_wp2
        go_ret
        exact ⟨by rw [HO.out]; rfl, HB⟩
    · replace h2 := Bool.eq_false_iff.2 h2
      rw [h2]
      have HO : Hid (btwV x y z u v t a b c = false) := by show _ = _; unfold btwV; rw [h2]; simp
      have HB := T0.below
      clear T0 h1 h2 R1 R2 R3
      go_wp2
      go_ret
      exact ⟨by rw [HO.out]; rfl, HB⟩
  · replace h1 := Bool.eq_false_iff.2 h1
    rw [h1]
    have HO : Hid (btwV x y z u v t a b c = false) := by show _ = _; unfold btwV; rw [h1]; simp
    have HB := T0.below
    clear T0 h1 R1 R2 R3
    go_wp2
    go_ret
    exact ⟨by rw [HO.out]; rfl, HB⟩
theorem b3p_cells {x y z u v t a b c : Int} {w W : World} (T0 : ArgsB w W [[.int .u64 (ww3 x), .int .u64 (ww2 x), .int .u64 (ww1 x), .int .u64 (ww0 x), .int .u64 (ww3 y), .int .u64 (ww2 y), .int .u64 (ww1 y), .int .u64 (ww0 y), .int .u64 (ww3 z), .int .u64 (ww2 z), .int .u64 (ww1 z), .int .u64 (ww0 z)], [.int .u64 (ww3 u), .int .u64 (ww2 u), .int .u64 (ww1 u), .int .u64 (ww0 u), .int .u64 (ww3 v), .int .u64 (ww2 v), .int .u64 (ww1 v), .int .u64 (ww0 v), .int .u64 (ww3 t), .int .u64 (ww2 t), .int .u64 (ww1 t), .int .u64 (ww0 t)], [.int .u64 (ww3 a), .int .u64 (ww2 a), .int .u64 (ww1 a), .int .u64 (ww0 a), .int .u64 (ww3 b), .int .u64 (ww2 b), .int .u64 (ww1 b), .int .u64 (ww0 b), .int .u64 (ww3 c), .int .u64 (ww2 c), .int .u64 (ww1 c), .int .u64 (ww0 c)]]) : (fun w' => w'.cell? ⟨w.heap.size, 0, none⟩ = some (.int .u64 (ww3 x)) ∧ w'.cell? ⟨w.heap.size, 1, none⟩ = some (.int .u64 (ww2 x)) ∧ w'.cell? ⟨w.heap.size, 2, none⟩ = some (.int .u64 (ww1 x)) ∧ w'.cell? ⟨w.heap.size, 3, none⟩ = some (.int .u64 (ww0 x)) ∧ w'.cell? ⟨w.heap.size, 4, none⟩ = some (.int .u64 (ww3 y)) ∧ w'.cell? ⟨w.heap.size, 5, none⟩ = some (.int .u64 (ww2 y)) ∧ w'.cell? ⟨w.heap.size, 6, none⟩ = some (.int .u64 (ww1 y)) ∧ w'.cell? ⟨w.heap.size, 7, none⟩ = some (.int .u64 (ww0 y)) ∧ w'.cell? ⟨w.heap.size, 8, none⟩ = some (.int .u64 (ww3 z)) ∧ w'.cell? ⟨w.heap.size, 9, none⟩ = some (.int .u64 (ww2 z)) ∧ w'.cell? ⟨w.heap.size, 10, none⟩ = some (.int .u64 (ww1 z)) ∧ w'.cell? ⟨w.heap.size, 11, none⟩ = some (.int .u64 (ww0 z)) ∧ w'.cell? ⟨w.heap.size + 1, 0, none⟩ = some (.int .u64 (ww3 u)) ∧ w'.cell? ⟨w.heap.size + 1, 1, none⟩ = some (.int .u64 (ww2 u)) ∧ w'.cell? ⟨w.heap.size + 1, 2, none⟩ = some (.int .u64 (ww1 u)) ∧ w'.cell? ⟨w.heap.size + 1, 3, none⟩ = some (.int .u64 (ww0 u)) ∧ w'.cell? ⟨w.heap.size + 1, 4, none⟩ = some (.int .u64 (ww3 v)) ∧ w'.cell? ⟨w.heap.size + 1, 5, none⟩ = some (.int .u64 (ww2 v)) ∧ w'.cell? ⟨w.heap.size + 1, 6, none⟩ = some (.int .u64 (ww1 v)) ∧ w'.cell? ⟨w.heap.size + 1, 7, none⟩ = some (.int .u64 (ww0 v)) ∧ w'.cell? ⟨w.heap.size + 1, 8, none⟩ = some (.int .u64 (ww3 t)) ∧ w'.cell? ⟨w.heap.size + 1, 9, none⟩ = some (.int .u64 (ww2 t)) ∧ w'.cell? ⟨w.heap.size + 1, 10, none⟩ = some (.int .u64 (ww1 t)) ∧ w'.cell? ⟨w.heap.size + 1, 11, none⟩ = some (.int .u64 (ww0 t)) ∧ w'.cell? ⟨w.heap.size + 2, 0, none⟩ = some (.int .u64 (ww3 a)) ∧ w'.cell? ⟨w.heap.size + 2, 1, none⟩ = some (.int .u64 (ww2 a)) ∧ w'.cell? ⟨w.heap.size + 2, 2, none⟩ = some (.int .u64 (ww1 a)) ∧ w'.cell? ⟨w.heap.size + 2, 3, none⟩ = some (.int .u64 (ww0 a)) ∧ w'.cell? ⟨w.heap.size + 2, 4, none⟩ = some (.int .u64 (ww3 b)) ∧ w'.cell? ⟨w.heap.size + 2, 5, none⟩ = some (.int .u64 (ww2 b)) ∧ w'.cell? ⟨w.heap.size + 2, 6, none⟩ = some (.int .u64 (ww1 b)) ∧ w'.cell? ⟨w.heap.size + 2, 7, none⟩ = some (.int .u64 (ww0 b)) ∧ w'.cell? ⟨w.heap.size + 2, 8, none⟩ = some (.int .u64 (ww3 c)) ∧ w'.cell? ⟨w.heap.size + 2, 9, none⟩ = some (.int .u64 (ww2 c)) ∧ w'.cell? ⟨w.heap.size + 2, 10, none⟩ = some (.int .u64 (ww1 c)) ∧ w'.cell? ⟨w.heap.size + 2, 11, none⟩ = some (.int .u64 (ww0 c))) W := ⟨(T0.b 0 rfl).c 0 rfl, (T0.b 0 rfl).c 1 rfl, (T0.b 0 rfl).c 2 rfl, (T0.b 0 rfl).c 3 rfl, (T0.b 0 rfl).c 4 rfl, (T0.b 0 rfl).c 5 rfl, (T0.b 0 rfl).c 6 rfl, (T0.b 0 rfl).c 7 rfl, (T0.b 0 rfl).c 8 rfl, (T0.b 0 rfl).c 9 rfl, (T0.b 0 rfl).c 10 rfl, (T0.b 0 rfl).c 11 rfl, (T0.b 1 rfl).c 0 rfl, (T0.b 1 rfl).c 1 rfl, (T0.b 1 rfl).c 2 rfl, (T0.b 1 rfl).c 3 rfl, (T0.b 1 rfl).c 4 rfl, (T0.b 1 rfl).c 5 rfl, (T0.b 1 rfl).c 6 rfl, (T0.b 1 rfl).c 7 rfl, (T0.b 1 rfl).c 8 rfl, (T0.b 1 rfl).c 9 rfl, (T0.b 1 rfl).c 10 rfl, (T0.b 1 rfl).c 11 rfl, (T0.b 2 rfl).c 0 rfl, (T0.b 2 rfl).c 1 rfl, (T0.b 2 rfl).c 2 rfl, (T0.b 2 rfl).c 3 rfl, (T0.b 2 rfl).c 4 rfl, (T0.b 2 rfl).c 5 rfl, (T0.b 2 rfl).c 6 rfl, (T0.b 2 rfl).c 7 rfl, (T0.b 2 rfl).c 8 rfl, (T0.b 2 rfl).c 9 rfl, (T0.b 2 rfl).c 10 rfl, (T0.b 2 rfl).c 11 rfl⟩
set_option maxRecDepth 100000 in
set_option maxHeartbeats 8000000 in
theorem specBetween_det (x y z u v t a b c : Int) (hx : told x = true) (hy : told y = true) (hz : told z = true) (hu : told u = true) (hv : told v = true) (ht : told t = true) (ha : told a = true) (hb : told b = true) (hc : told c = true) (w : World) : Calls Try.prog 28 #[PV x y z, PV u v t, PV a b c] w (VP (.bool (btwV x y z u v t a b c)) w) := by
  have T0 : ArgsB w (((w.alloc (.cells #[.int .u64 (ww3 x), .int .u64 (ww2 x), .int .u64 (ww1 x), .int .u64 (ww0 x), .int .u64 (ww3 y), .int .u64 (ww2 y), .int .u64 (ww1 y), .int .u64 (ww0 y), .int .u64 (ww3 z), .int .u64 (ww2 z), .int .u64 (ww1 z), .int .u64 (ww0 z)] 30)).alloc (.cells #[.int .u64 (ww3 u), .int .u64 (ww2 u), .int .u64 (ww1 u), .int .u64 (ww0 u), .int .u64 (ww3 v), .int .u64 (ww2 v), .int .u64 (ww1 v), .int .u64 (ww0 v), .int .u64 (ww3 t), .int .u64 (ww2 t), .int .u64 (ww1 t), .int .u64 (ww0 t)] 30)).alloc (.cells #[.int .u64 (ww3 a), .int .u64 (ww2 a), .int .u64 (ww1 a), .int .u64 (ww0 a), .int .u64 (ww3 b), .int .u64 (ww2 b), .int .u64 (ww1 b), .int .u64 (ww0 b), .int .u64 (ww3 c), .int .u64 (ww2 c), .int .u64 (ww1 c), .int .u64 (ww0 c)] 30)) [[.int .u64 (ww3 x), .int .u64 (ww2 x), .int .u64 (ww1 x), .int .u64 (ww0 x), .int .u64 (ww3 y), .int .u64 (ww2 y), .int .u64 (ww1 y), .int .u64 (ww0 y), .int .u64 (ww3 z), .int .u64 (ww2 z), .int .u64 (ww1 z), .int .u64 (ww0 z)], [.int .u64 (ww3 u), .int .u64 (ww2 u), .int .u64 (ww1 u), .int .u64 (ww0 u), .int .u64 (ww3 v), .int .u64 (ww2 v), .int .u64 (ww1 v), .int .u64 (ww0 v), .int .u64 (ww3 t), .int .u64 (ww2 t), .int .u64 (ww1 t), .int .u64 (ww0 t)], [.int .u64 (ww3 a), .int .u64 (ww2 a), .int .u64 (ww1 a), .int .u64 (ww0 a), .int .u64 (ww3 b), .int .u64 (ww2 b), .int .u64 (ww1 b), .int .u64 (ww0 b), .int .u64 (ww3 c), .int .u64 (ww2 c), .int .u64 (ww1 c), .int .u64 (ww0 c)]] := ar3 _ _ _ _ _ _ w
  have R1 := specPointOk_det x y z hx hy hz
  have R2 := specPointOk_det u v t hu hv ht
  have R3 := specPointOk_det a b c ha hb hc
  have F1 := l3Of_det x y z hx hy hz
  have F2 := l3Of_det u v t hu hv ht
  have F3 := l3Of_det a b c ha hb hc
  clear hx hy hz hu hv ht ha hb hc
  go_enter Try.func28, Try.ntmps28
  go_upto_region 1 with fail
  generalize (((w.alloc (.cells #[.int .u64 (ww3 x), .int .u64 (ww2 x), .int .u64 (ww1 x), .int .u64 (ww0 x), .int .u64 (ww3 y), .int .u64 (ww2 y), .int .u64 (ww1 y), .int .u64 (ww0 y), .int .u64 (ww3 z), .int .u64 (ww2 z), .int .u64 (ww1 z), .int .u64 (ww0 z)] 30)).alloc (.cells #[.int .u64 (ww3 u), .int .u64 (ww2 u), .int .u64 (ww1 u), .int .u64 (ww0 u), .int .u64 (ww3 v), .int .u64 (ww2 v), .int .u64 (ww1 v), .int .u64 (ww0 v), .int .u64 (ww3 t), .int .u64 (ww2 t), .int .u64 (ww1 t), .int .u64 (ww0 t)] 30)).alloc (.cells #[.int .u64 (ww3 a), .int .u64 (ww2 a), .int .u64 (ww1 a), .int .u64 (ww0 a), .int .u64 (ww3 b), .int .u64 (ww2 b), .int .u64 (ww1 b), .int .u64 (ww0 b), .int .u64 (ww3 c), .int .u64 (ww2 c), .int .u64 (ww1 c), .int .u64 (ww0 c)] 30)) = W at *
  by_cases h1 : ptB x y z = true
  · by_cases h2 : ptB u v t = true
    · by_cases h3 : ptB a b c = true
      · have HO : Hid (btwV x y z u v t a b c = btwS x y z u v t a b c) := by show _ = _; unfold btwV; rw [h1, h2, h3]; rfl
        have tok1 : True := trivial
        have tok2 : True := trivial
        have tok3 : True := trivial
        have tok4 : True := trivial
        go_region_held3 (fun w' => w'.cell? ⟨w.heap.size, 0, none⟩ = some (.int .u64 (ww3 x)) ∧ w'.cell? ⟨w.heap.size, 1, none⟩ = some (.int .u64 (ww2 x)) ∧ w'.cell? ⟨w.heap.size, 2, none⟩ = some (.int .u64 (ww1 x)) ∧ w'.cell? ⟨w.heap.size, 3, none⟩ = some (.int .u64 (ww0 x)) ∧ w'.cell? ⟨w.heap.size, 4, none⟩ = some (.int .u64 (ww3 y)) ∧ w'.cell? ⟨w.heap.size, 5, none⟩ = some (.int .u64 (ww2 y)) ∧ w'.cell? ⟨w.heap.size, 6, none⟩ = some (.int .u64 (ww1 y)) ∧ w'.cell? ⟨w.heap.size, 7, none⟩ = some (.int .u64 (ww0 y)) ∧ w'.cell? ⟨w.heap.size, 8, none⟩ = some (.int .u64 (ww3 z)) ∧ w'.cell? ⟨w.heap.size, 9, none⟩ = some (.int .u64 (ww2 z)) ∧ w'.cell? ⟨w.heap.size, 10, none⟩ = some (.int .u64 (ww1 z)) ∧ w'.cell? ⟨w.heap.size, 11, none⟩ = some (.int .u64 (ww0 z)) ∧ w'.cell? ⟨w.heap.size + 1, 0, none⟩ = some (.int .u64 (ww3 u)) ∧ w'.cell? ⟨w.heap.size + 1, 1, none⟩ = some (.int .u64 (ww2 u)) ∧ w'.cell? ⟨w.heap.size + 1, 2, none⟩ = some (.int .u64 (ww1 u)) ∧ w'.cell? ⟨w.heap.size + 1, 3, none⟩ = some (.int .u64 (ww0 u)) ∧ w'.cell? ⟨w.heap.size + 1, 4, none⟩ = some (.int .u64 (ww3 v)) ∧ w'.cell? ⟨w.heap.size + 1, 5, none⟩ = some (.int .u64 (ww2 v)) ∧ w'.cell? ⟨w.heap.size + 1, 6, none⟩ = some (.int .u64 (ww1 v)) ∧ w'.cell? ⟨w.heap.size + 1, 7, none⟩ = some (.int .u64 (ww0 v)) ∧ w'.cell? ⟨w.heap.size + 1, 8, none⟩ = some (.int .u64 (ww3 t)) ∧ w'.cell? ⟨w.heap.size + 1, 9, none⟩ = some (.int .u64 (ww2 t)) ∧ w'.cell? ⟨w.heap.size + 1, 10, none⟩ = some (.int .u64 (ww1 t)) ∧ w'.cell? ⟨w.heap.size + 1, 11, none⟩ = some (.int .u64 (ww0 t)) ∧ w'.cell? ⟨w.heap.size + 2, 0, none⟩ = some (.int .u64 (ww3 a)) ∧ w'.cell? ⟨w.heap.size + 2, 1, none⟩ = some (.int .u64 (ww2 a)) ∧ w'.cell? ⟨w.heap.size + 2, 2, none⟩ = some (.int .u64 (ww1 a)) ∧ w'.cell? ⟨w.heap.size + 2, 3, none⟩ = some (.int .u64 (ww0 a)) ∧ w'.cell? ⟨w.heap.size + 2, 4, none⟩ = some (.int .u64 (ww3 b)) ∧ w'.cell? ⟨w.heap.size + 2, 5, none⟩ = some (.int .u64 (ww2 b)) ∧ w'.cell? ⟨w.heap.size + 2, 6, none⟩ = some (.int .u64 (ww1 b)) ∧ w'.cell? ⟨w.heap.size + 2, 7, none⟩ = some (.int .u64 (ww0 b)) ∧ w'.cell? ⟨w.heap.size + 2, 8, none⟩ = some (.int .u64 (ww3 c)) ∧ w'.cell? ⟨w.heap.size + 2, 9, none⟩ = some (.int .u64 (ww2 c)) ∧ w'.cell? ⟨w.heap.size + 2, 10, none⟩ = some (.int .u64 (ww1 c)) ∧ w'.cell? ⟨w.heap.size + 2, 11, none⟩ = some (.int .u64 (ww0 c))) (first | (with_reducible exact b3p_cells T0) | (with_reducible exact b3p_cells T0.drew))
          (first
            | (go_at_call 17; have _t := tok1; refine (R1 _).mono ?_; rintro e k1 ⟨rfl, hB⟩; rw [h1]; (first | (have T1 := T0.step hB) | (have T1 := T0.drew.step hB)); clear T0; have T0 := T1; clear T1; clear hB; clear tok1 _t)
            | (go_at_call 17; have _t := tok2; refine (R2 _).mono ?_; rintro e k2 ⟨rfl, hB⟩; rw [h2]; (first | (have T1 := T0.step hB) | (have T1 := T0.drew.step hB)); clear T0; have T0 := T1; clear T1; clear hB; clear tok2 _t)
            | (go_at_call 17; refine (R3 _).mono ?_; rintro e k3 ⟨rfl, hB⟩; rw [h3]; (first | (have T1 := T0.step hB) | (have T1 := T0.drew.step hB)); clear T0; have T0 := T1; clear T1; clear hB)
            | (go_at_call 57; have _t := tok3; refine (F1 _).mono ?_; rintro e v1 ⟨ps1, po1, pn1, pc1, pd1, ps2, po2, pn2, pc2, pd2, ps3, po3, pn3, pc3, pd3, rfl, Np1, Np2, Np3, hB⟩; (first | (have T1 := T0.step hB) | (have T1 := T0.drew.step hB)); clear T0; have T0 := T1; clear T1; clear hB tok3 _t)
            | (go_at_call 57; have _t := tok4; refine (F2 _).mono ?_; rintro e v2 ⟨qs1, qo1, qn1, qc1, qd1, qs2, qo2, qn2, qc2, qd2, qs3, qo3, qn3, qc3, qd3, rfl, Nq1, Nq2, Nq3, hB⟩; (first | (have T1 := T0.step hB) | (have T1 := T0.drew.step hB)); clear T0; have T0 := T1; clear T1; replace Np1 := Np1.below hB; replace Np2 := Np2.below hB; replace Np3 := Np3.below hB; clear hB tok4 _t)
            | (go_at_call 57; refine (F3 _).mono ?_; rintro e v3 ⟨rs1, ro1, rn1, rc1, rd1, rs2, ro2, rn2, rc2, rd2, rs3, ro3, rn3, rc3, rd3, rfl, Nr1, Nr2, Nr3, hB⟩; (first | (have T1 := T0.step hB) | (have T1 := T0.drew.step hB)); clear T0; have T0 := T1; clear T1; replace Np1 := Np1.below hB; replace Np2 := Np2.below hB; replace Np3 := Np3.below hB; replace Nq1 := Nq1.below hB; replace Nq2 := Nq2.below hB; replace Nq3 := Nq3.below hB; clear hB)
            | (go_at_call 77; refine (l3Between_any ps1 ps2 ps3 po1 po2 po3 pn1 pc1 pn2 pc2 pn3 pc3 qs1 qs2 qs3 qo1 qo2 qo3 qn1 qc1 qn2 qc2 qn3 qc3 rs1 rs2 rs3 ro1 ro2 ro3 rn1 rc1 rn2 rc2 rn3 rc3 pd1 pd2 pd3 qd1 qd2 qd3 rd1 rd2 rd3 x y z u v t a b c 8 (by omega) _ Np1 Np2 Np3 Nq1 Nq2 Nq3 Nr1 Nr2 Nr3).mono ?_; rintro e v4 ⟨rfl, hB⟩; (first | (have T1 := T0.step hB) | (have T1 := T0.drew.step hB)); clear T0; have T0 := T1; clear T1; clear hB))
        all_goals have HB := T0.below
        all_goals clear T0
        all_goals go_wp2
        all_goals go_ret
        all_goals exact ⟨by rw [HO.out]; simp, by first | exact HB | exact HB.drew⟩
      · replace h3 := Bool.eq_false_iff.2 h3
        have HO : Hid (btwV x y z u v t a b c = false) := by show _ = _; unfold btwV; rw [h3]; simp
        have X0 : Blk _ w.heap.size _ := T0.b 0 rfl; have Y0 : Blk _ (w.heap.size + 1) _ := T0.b 1 rfl; have Z0 : Blk _ (w.heap.size + 1 + 1) _ := T0.b 2 rfl; have p0 := X0.c 0 rfl; have q0 := Y0.c 0 rfl; have r0 := Z0.c 0 rfl; have p1 := X0.c 1 rfl; have q1 := Y0.c 1 rfl; have r1 := Z0.c 1 rfl; have p2 := X0.c 2 rfl; have q2 := Y0.c 2 rfl; have r2 := Z0.c 2 rfl; have p3 := X0.c 3 rfl; have q3 := Y0.c 3 rfl; have r3 := Z0.c 3 rfl; have p4 := X0.c 4 rfl; have q4 := Y0.c 4 rfl; have r4 := Z0.c 4 rfl; have p5 := X0.c 5 rfl; have q5 := Y0.c 5 rfl; have r5 := Z0.c 5 rfl; have p6 := X0.c 6 rfl; have q6 := Y0.c 6 rfl; have r6 := Z0.c 6 rfl; have p7 := X0.c 7 rfl; have q7 := Y0.c 7 rfl; have r7 := Z0.c 7 rfl; have p8 := X0.c 8 rfl; have q8 := Y0.c 8 rfl; have r8 := Z0.c 8 rfl; have p9 := X0.c 9 rfl; have q9 := Y0.c 9 rfl; have r9 := Z0.c 9 rfl; have p10 := X0.c 10 rfl; have q10 := Y0.c 10 rfl; have r10 := Z0.c 10 rfl; have p11 := X0.c 11 rfl; have q11 := Y0.c 11 rfl; have r11 := Z0.c 11 rfl; clear X0 Y0 Z0
        refine wp_region_any (by kernel_rfl) ?_
        try (change wpAny _ _ _ _ _ _ _ (World.drew _))
        refine wpAny_ready (rs := [0]) (by kernel_rfl) (by simp) ?_
        refine AllReady.cons rfl (fun K hK => ?_) AllReady.nil
        go_simp
        refine hK _ _ ?_
        clear hK K
        refine wpAny_ready (rs := [1]) (by kernel_rfl) (by simp) ?_
        refine AllReady.cons rfl (fun K hK => ?_) AllReady.nil
        go_simp
        go_wp2_with (go_at_call 17; refine (R1 _).mono ?_; rintro e k1 ⟨rfl, hB⟩; rw [h1]; (first | (have T1 := T0.step hB) | (have T1 := T0.drew.step hB)); clear T0; have T0 := T1; clear T1; clear hB; clear p0 q0 r0 p1 q1 r1 p2 q2 r2 p3 q3 r3 p4 q4 r4 p5 q5 r5 p6 q6 r6 p7 q7 r7 p8 q8 r8 p9 q9 r9 p10 q10 r10 p11 q11 r11; have X0 : Blk _ w.heap.size _ := T0.b 0 rfl; have Y0 : Blk _ (w.heap.size + 1) _ := T0.b 1 rfl; have Z0 : Blk _ (w.heap.size + 1 + 1) _ := T0.b 2 rfl; have p0 := X0.c 0 rfl; have q0 := Y0.c 0 rfl; have r0 := Z0.c 0 rfl; have p1 := X0.c 1 rfl; have q1 := Y0.c 1 rfl; have r1 := Z0.c 1 rfl; have p2 := X0.c 2 rfl; have q2 := Y0.c 2 rfl; have r2 := Z0.c 2 rfl; have p3 := X0.c 3 rfl; have q3 := Y0.c 3 rfl; have r3 := Z0.c 3 rfl; have p4 := X0.c 4 rfl; have q4 := Y0.c 4 rfl; have r4 := Z0.c 4 rfl; have p5 := X0.c 5 rfl; have q5 := Y0.c 5 rfl; have r5 := Z0.c 5 rfl; have p6 := X0.c 6 rfl; have q6 := Y0.c 6 rfl; have r6 := Z0.c 6 rfl; have p7 := X0.c 7 rfl; have q7 := Y0.c 7 rfl; have r7 := Z0.c 7 rfl; have p8 := X0.c 8 rfl; have q8 := Y0.c 8 rfl; have r8 := Z0.c 8 rfl; have p9 := X0.c 9 rfl; have q9 := Y0.c 9 rfl; have r9 := Z0.c 9 rfl; have p10 := X0.c 10 rfl; have q10 := Y0.c 10 rfl; have r10 := Z0.c 10 rfl; have p11 := X0.c 11 rfl; have q11 := Y0.c 11 rfl; have r11 := Z0.c 11 rfl; clear X0 Y0 Z0)
        (try (refine hK _ _ ?_; clear hK K))
        refine wpAny_ready (rs := [2]) (by kernel_rfl) (by simp) ?_
        refine AllReady.cons rfl (fun K hK => ?_) AllReady.nil
        go_simp
        refine hK _ _ ?_
        clear hK K
        refine wpAny_ready (rs := [3]) (by kernel_rfl) (by simp) ?_
        refine AllReady.cons rfl (fun K hK => ?_) AllReady.nil
        go_simp
        refine hK _ _ ?_
        clear hK K
        refine wpAny_ready (rs := [4]) (by kernel_rfl) (by simp) ?_
        refine AllReady.cons rfl (fun K hK => ?_) AllReady.nil
        go_simp
        go_wp2_with (go_at_call 17; refine (R2 _).mono ?_; rintro e k2 ⟨rfl, hB⟩; rw [h2]; (first | (have T1 := T0.step hB) | (have T1 := T0.drew.step hB)); clear T0; have T0 := T1; clear T1; clear hB; clear p0 q0 r0 p1 q1 r1 p2 q2 r2 p3 q3 r3 p4 q4 r4 p5 q5 r5 p6 q6 r6 p7 q7 r7 p8 q8 r8 p9 q9 r9 p10 q10 r10 p11 q11 r11; have X0 : Blk _ w.heap.size _ := T0.b 0 rfl; have Y0 : Blk _ (w.heap.size + 1) _ := T0.b 1 rfl; have Z0 : Blk _ (w.heap.size + 1 + 1) _ := T0.b 2 rfl; have p0 := X0.c 0 rfl; have q0 := Y0.c 0 rfl; have r0 := Z0.c 0 rfl; have p1 := X0.c 1 rfl; have q1 := Y0.c 1 rfl; have r1 := Z0.c 1 rfl; have p2 := X0.c 2 rfl; have q2 := Y0.c 2 rfl; have r2 := Z0.c 2 rfl; have p3 := X0.c 3 rfl; have q3 := Y0.c 3 rfl; have r3 := Z0.c 3 rfl; have p4 := X0.c 4 rfl; have q4 := Y0.c 4 rfl; have r4 := Z0.c 4 rfl; have p5 := X0.c 5 rfl; have q5 := Y0.c 5 rfl; have r5 := Z0.c 5 rfl; have p6 := X0.c 6 rfl; have q6 := Y0.c 6 rfl; have r6 := Z0.c 6 rfl; have p7 := X0.c 7 rfl; have q7 := Y0.c 7 rfl; have r7 := Z0.c 7 rfl; have p8 := X0.c 8 rfl; have q8 := Y0.c 8 rfl; have r8 := Z0.c 8 rfl; have p9 := X0.c 9 rfl; have q9 := Y0.c 9 rfl; have r9 := Z0.c 9 rfl; have p10 := X0.c 10 rfl; have q10 := Y0.c 10 rfl; have r10 := Z0.c 10 rfl; have p11 := X0.c 11 rfl; have q11 := Y0.c 11 rfl; have r11 := Z0.c 11 rfl; clear X0 Y0 Z0)
        (try (refine hK _ _ ?_; clear hK K))
        refine wpAny_ready (rs := [5]) (by kernel_rfl) (by simp) ?_
        refine AllReady.cons rfl (fun K hK => ?_) AllReady.nil
        go_simp
        refine hK _ _ ?_
        clear hK K
        refine wpAny_ready (rs := [6]) (by kernel_rfl) (by simp) ?_
        refine AllReady.cons rfl (fun K hK => ?_) AllReady.nil
        go_simp
        refine hK _ _ ?_
        clear hK K
        refine wpAny_ready (rs := [7]) (by kernel_rfl) (by simp) ?_
        refine AllReady.cons rfl (fun K hK => ?_) AllReady.nil
        go_simp
        refine hK _ _ ?_
        clear hK K
        refine wpAny_ready (rs := [8]) (by kernel_rfl) (by simp) ?_
        refine AllReady.cons rfl (fun K hK => ?_) AllReady.nil
        go_simp
        go_wp2_with (go_at_call 17; refine (R3 _).mono ?_; rintro e k3 ⟨rfl, hB⟩; rw [h3]; (first | (have T1 := T0.step hB) | (have T1 := T0.drew.step hB)); clear T0; have T0 := T1; clear T1; clear hB; clear p0 q0 r0 p1 q1 r1 p2 q2 r2 p3 q3 r3 p4 q4 r4 p5 q5 r5 p6 q6 r6 p7 q7 r7 p8 q8 r8 p9 q9 r9 p10 q10 r10 p11 q11 r11)
        (try (refine hK _ _ ?_; clear hK K))
        refine wpAny_ready (rs := [9]) (by kernel_rfl) (by simp) ?_
        refine AllReady.cons rfl (fun K hK => ?_) AllReady.nil
        go_simp
        refine hK _ _ ?_
        clear hK K
        refine wpAny_ready (rs := [10]) (by kernel_rfl) (by simp) ?_
        refine AllReady.cons rfl (fun K hK => ?_) AllReady.nil
        go_simp
        refine hK _ _ ?_
        clear hK K
        refine wpAny_take (i := 11) (v := undef) rfl (by kernel_rfl) (by kernel_rfl) (by kernel_rfl) (fun _ _ _ h => h) (Or.inr ⟨by kernel_rfl, rfl⟩) ?_
        refine wpAny_take (i := 12) (v := undef) rfl (by kernel_rfl) (by kernel_rfl) (by kernel_rfl) (fun _ _ _ h => h) (Or.inr ⟨by kernel_rfl, rfl⟩) ?_
        refine wpAny_take (i := 13) (v := undef) rfl (by kernel_rfl) (by kernel_rfl) (by kernel_rfl) (fun _ _ _ h => h) (Or.inr ⟨by kernel_rfl, rfl⟩) ?_
        refine wpAny_take (i := 14) (v := undef) rfl (by kernel_rfl) (by kernel_rfl) (by kernel_rfl) (fun _ _ _ h => h) (Or.inr ⟨by kernel_rfl, rfl⟩) ?_
        refine wpAny_take (i := 15) (v := undef) rfl (by kernel_rfl) (by kernel_rfl) (by kernel_rfl) (fun _ _ _ h => h) (Or.inr ⟨by kernel_rfl, rfl⟩) ?_
        refine wpAny_take (i := 16) (v := undef) rfl (by kernel_rfl) (by kernel_rfl) (by kernel_rfl) (fun _ _ _ h => h) (Or.inr ⟨by kernel_rfl, rfl⟩) ?_
        refine wpAny_take (i := 17) (v := undef) rfl (by kernel_rfl) (by kernel_rfl) (by kernel_rfl) (fun _ _ _ h => h) (Or.inr ⟨by kernel_rfl, rfl⟩) ?_
        refine wpAny_ready (rs := [18]) (by kernel_rfl) (by simp) ?_
        refine AllReady.cons rfl (fun K hK => ?_) AllReady.nil
        go_simp
        refine hK _ _ ?_
        clear hK K
        refine wpAny_ready (rs := [19]) (by kernel_rfl) (by simp) ?_
        refine AllReady.cons rfl (fun K hK => ?_) AllReady.nil
        go_simp
        refine hK _ _ ?_
        clear hK K
        refine wpAny_done (by kernel_rfl) ?_ _
        have HB := T0.below
        clear T0
        go_wp2
        go_ret
        exact ⟨by rw [HO.out]; rfl, by first | exact HB | exact HB.drew⟩
    · replace h2 := Bool.eq_false_iff.2 h2
      have HO : Hid (btwV x y z u v t a b c = false) := by show _ = _; unfold btwV; rw [h2]; simp
      have X0 : Blk _ w.heap.size _ := T0.b 0 rfl; have Y0 : Blk _ (w.heap.size + 1) _ := T0.b 1 rfl; have Z0 : Blk _ (w.heap.size + 1 + 1) _ := T0.b 2 rfl; have p0 := X0.c 0 rfl; have q0 := Y0.c 0 rfl; have r0 := Z0.c 0 rfl; have p1 := X0.c 1 rfl; have q1 := Y0.c 1 rfl; have r1 := Z0.c 1 rfl; have p2 := X0.c 2 rfl; have q2 := Y0.c 2 rfl; have r2 := Z0.c 2 rfl; have p3 := X0.c 3 rfl; have q3 := Y0.c 3 rfl; have r3 := Z0.c 3 rfl; have p4 := X0.c 4 rfl; have q4 := Y0.c 4 rfl; have r4 := Z0.c 4 rfl; have p5 := X0.c 5 rfl; have q5 := Y0.c 5 rfl; have r5 := Z0.c 5 rfl; have p6 := X0.c 6 rfl; have q6 := Y0.c 6 rfl; have r6 := Z0.c 6 rfl; have p7 := X0.c 7 rfl; have q7 := Y0.c 7 rfl; have r7 := Z0.c 7 rfl; have p8 := X0.c 8 rfl; have q8 := Y0.c 8 rfl; have r8 := Z0.c 8 rfl; have p9 := X0.c 9 rfl; have q9 := Y0.c 9 rfl; have r9 := Z0.c 9 rfl; have p10 := X0.c 10 rfl; have q10 := Y0.c 10 rfl; have r10 := Z0.c 10 rfl; have p11 := X0.c 11 rfl; have q11 := Y0.c 11 rfl; have r11 := Z0.c 11 rfl; clear X0 Y0 Z0
      refine wp_region_any (by kernel_rfl) ?_
      try (change wpAny _ _ _ _ _ _ _ (World.drew _))
      refine wpAny_ready (rs := [0]) (by kernel_rfl) (by simp) ?_
      refine AllReady.cons rfl (fun K hK => ?_) AllReady.nil
      go_simp
      refine hK _ _ ?_
      clear hK K
      refine wpAny_ready (rs := [1]) (by kernel_rfl) (by simp) ?_
      refine AllReady.cons rfl (fun K hK => ?_) AllReady.nil
      go_simp
      go_wp2_with (go_at_call 17; refine (R1 _).mono ?_; rintro e k1 ⟨rfl, hB⟩; rw [h1]; (first | (have T1 := T0.step hB) | (have T1 := T0.drew.step hB)); clear T0; have T0 := T1; clear T1; clear hB; clear p0 q0 r0 p1 q1 r1 p2 q2 r2 p3 q3 r3 p4 q4 r4 p5 q5 r5 p6 q6 r6 p7 q7 r7 p8 q8 r8 p9 q9 r9 p10 q10 r10 p11 q11 r11; have X0 : Blk _ w.heap.size _ := T0.b 0 rfl; have Y0 : Blk _ (w.heap.size + 1) _ := T0.b 1 rfl; have Z0 : Blk _ (w.heap.size + 1 + 1) _ := T0.b 2 rfl; have p0 := X0.c 0 rfl; have q0 := Y0.c 0 rfl; have r0 := Z0.c 0 rfl; have p1 := X0.c 1 rfl; have q1 := Y0.c 1 rfl; have r1 := Z0.c 1 rfl; have p2 := X0.c 2 rfl; have q2 := Y0.c 2 rfl; have r2 := Z0.c 2 rfl; have p3 := X0.c 3 rfl; have q3 := Y0.c 3 rfl; have r3 := Z0.c 3 rfl; have p4 := X0.c 4 rfl; have q4 := Y0.c 4 rfl; have r4 := Z0.c 4 rfl; have p5 := X0.c 5 rfl; have q5 := Y0.c 5 rfl; have r5 := Z0.c 5 rfl; have p6 := X0.c 6 rfl; have q6 := Y0.c 6 rfl; have r6 := Z0.c 6 rfl; have p7 := X0.c 7 rfl; have q7 := Y0.c 7 rfl; have r7 := Z0.c 7 rfl; have p8 := X0.c 8 rfl; have q8 := Y0.c 8 rfl; have r8 := Z0.c 8 rfl; have p9 := X0.c 9 rfl; have q9 := Y0.c 9 rfl; have r9 := Z0.c 9 rfl; have p10 := X0.c 10 rfl; have q10 := Y0.c 10 rfl; have r10 := Z0.c 10 rfl; have p11 := X0.c 11 rfl; have q11 := Y0.c 11 rfl; have r11 := Z0.c 11 rfl; clear X0 Y0 Z0)
      (try (refine hK _ _ ?_; clear hK K))
      refine wpAny_ready (rs := [2]) (by kernel_rfl) (by simp) ?_
      refine AllReady.cons rfl (fun K hK => ?_) AllReady.nil
      go_simp
      refine hK _ _ ?_
      clear hK K
      refine wpAny_ready (rs := [3]) (by kernel_rfl) (by simp) ?_
      refine AllReady.cons rfl (fun K hK => ?_) AllReady.nil
      go_simp
      refine hK _ _ ?_
      clear hK K
      refine wpAny_ready (rs := [4]) (by kernel_rfl) (by simp) ?_
      refine AllReady.cons rfl (fun K hK => ?_) AllReady.nil
      go_simp
      go_wp2_with (go_at_call 17; refine (R2 _).mono ?_; rintro e k2 ⟨rfl, hB⟩; rw [h2]; (first | (have T1 := T0.step hB) | (have T1 := T0.drew.step hB)); clear T0; have T0 := T1; clear T1; clear hB; clear p0 q0 r0 p1 q1 r1 p2 q2 r2 p3 q3 r3 p4 q4 r4 p5 q5 r5 p6 q6 r6 p7 q7 r7 p8 q8 r8 p9 q9 r9 p10 q10 r10 p11 q11 r11)
      (try (refine hK _ _ ?_; clear hK K))
      refine wpAny_ready (rs := [5]) (by kernel_rfl) (by simp) ?_
      refine AllReady.cons rfl (fun K hK => ?_) AllReady.nil
      go_simp
      refine hK _ _ ?_
      clear hK K
      refine wpAny_ready (rs := [6]) (by kernel_rfl) (by simp) ?_
      refine AllReady.cons rfl (fun K hK => ?_) AllReady.nil
      go_simp
      refine hK _ _ ?_
      clear hK K
      refine wpAny_take (i := 7) (v := undef) rfl (by kernel_rfl) (by kernel_rfl) (by kernel_rfl) (fun _ _ _ h => h) (Or.inr ⟨by kernel_rfl, rfl⟩) ?_
      refine wpAny_take (i := 8) (v := undef) rfl (by kernel_rfl) (by kernel_rfl) (by kernel_rfl) (fun _ _ _ h => h) (Or.inr ⟨by kernel_rfl, rfl⟩) ?_
      refine wpAny_ready (rs := [9]) (by kernel_rfl) (by simp) ?_
      refine AllReady.cons rfl (fun K hK => ?_) AllReady.nil
      go_simp
      refine hK _ _ ?_
      clear hK K
      refine wpAny_ready (rs := [10]) (by kernel_rfl) (by simp) ?_
      refine AllReady.cons rfl (fun K hK => ?_) AllReady.nil
      go_simp
      refine hK _ _ ?_
      clear hK K
      refine wpAny_take (i := 11) (v := undef) rfl (by kernel_rfl) (by kernel_rfl) (by kernel_rfl) (fun _ _ _ h => h) (Or.inr ⟨by kernel_rfl, rfl⟩) ?_
      refine wpAny_take (i := 12) (v := undef) rfl (by kernel_rfl) (by kernel_rfl) (by kernel_rfl) (fun _ _ _ h => h) (Or.inr ⟨by kernel_rfl, rfl⟩) ?_
      refine wpAny_take (i := 13) (v := undef) rfl (by kernel_rfl) (by kernel_rfl) (by kernel_rfl) (fun _ _ _ h => h) (Or.inr ⟨by kernel_rfl, rfl⟩) ?_
      refine wpAny_take (i := 14) (v := undef) rfl (by kernel_rfl) (by kernel_rfl) (by kernel_rfl) (fun _ _ _ h => h) (Or.inr ⟨by kernel_rfl, rfl⟩) ?_
      refine wpAny_take (i := 15) (v := undef) rfl (by kernel_rfl) (by kernel_rfl) (by kernel_rfl) (fun _ _ _ h => h) (Or.inr ⟨by kernel_rfl, rfl⟩) ?_
      refine wpAny_take (i := 16) (v := undef) rfl (by kernel_rfl) (by kernel_rfl) (by kernel_rfl) (fun _ _ _ h => h) (Or.inr ⟨by kernel_rfl, rfl⟩) ?_
      refine wpAny_take (i := 17) (v := undef) rfl (by kernel_rfl) (by kernel_rfl) (by kernel_rfl) (fun _ _ _ h => h) (Or.inr ⟨by kernel_rfl, rfl⟩) ?_
      refine wpAny_ready (rs := [18]) (by kernel_rfl) (by simp) ?_
      refine AllReady.cons rfl (fun K hK => ?_) AllReady.nil
      go_simp
      refine hK _ _ ?_
      clear hK K
      refine wpAny_ready (rs := [19]) (by kernel_rfl) (by simp) ?_
      refine AllReady.cons rfl (fun K hK => ?_) AllReady.nil
      go_simp
      refine hK _ _ ?_
      clear hK K
      refine wpAny_done (by kernel_rfl) ?_ _
      have HB := T0.below
      clear T0
      go_wp2
      go_ret
      exact ⟨by rw [HO.out]; rfl, by first | exact HB | exact HB.drew⟩
  · replace h1 := Bool.eq_false_iff.2 h1
    have HO : Hid (btwV x y z u v t a b c = false) := by show _ = _; unfold btwV; rw [h1]; simp
    have X0 : Blk _ w.heap.size _ := T0.b 0 rfl; have Y0 : Blk _ (w.heap.size + 1) _ := T0.b 1 rfl; have Z0 : Blk _ (w.heap.size + 1 + 1) _ := T0.b 2 rfl; have p0 := X0.c 0 rfl; have q0 := Y0.c 0 rfl; have r0 := Z0.c 0 rfl; have p1 := X0.c 1 rfl; have q1 := Y0.c 1 rfl; have r1 := Z0.c 1 rfl; have p2 := X0.c 2 rfl; have q2 := Y0.c 2 rfl; have r2 := Z0.c 2 rfl; have p3 := X0.c 3 rfl; have q3 := Y0.c 3 rfl; have r3 := Z0.c 3 rfl; have p4 := X0.c 4 rfl; have q4 := Y0.c 4 rfl; have r4 := Z0.c 4 rfl; have p5 := X0.c 5 rfl; have q5 := Y0.c 5 rfl; have r5 := Z0.c 5 rfl; have p6 := X0.c 6 rfl; have q6 := Y0.c 6 rfl; have r6 := Z0.c 6 rfl; have p7 := X0.c 7 rfl; have q7 := Y0.c 7 rfl; have r7 := Z0.c 7 rfl; have p8 := X0.c 8 rfl; have q8 := Y0.c 8 rfl; have r8 := Z0.c 8 rfl; have p9 := X0.c 9 rfl; have q9 := Y0.c 9 rfl; have r9 := Z0.c 9 rfl; have p10 := X0.c 10 rfl; have q10 := Y0.c 10 rfl; have r10 := Z0.c 10 rfl; have p11 := X0.c 11 rfl; have q11 := Y0.c 11 rfl; have r11 := Z0.c 11 rfl; clear X0 Y0 Z0
    refine wp_region_any (by kernel_rfl) ?_
    try (change wpAny _ _ _ _ _ _ _ (World.drew _))
    refine wpAny_ready (rs := [0]) (by kernel_rfl) (by simp) ?_
    refine AllReady.cons rfl (fun K hK => ?_) AllReady.nil
    go_simp
    refine hK _ _ ?_
    clear hK K
    refine wpAny_ready (rs := [1]) (by kernel_rfl) (by simp) ?_
    refine AllReady.cons rfl (fun K hK => ?_) AllReady.nil
    go_simp
    go_wp2_with (go_at_call 17; refine (R1 _).mono ?_; rintro e k1 ⟨rfl, hB⟩; rw [h1]; (first | (have T1 := T0.step hB) | (have T1 := T0.drew.step hB)); clear T0; have T0 := T1; clear T1; clear hB; clear p0 q0 r0 p1 q1 r1 p2 q2 r2 p3 q3 r3 p4 q4 r4 p5 q5 r5 p6 q6 r6 p7 q7 r7 p8 q8 r8 p9 q9 r9 p10 q10 r10 p11 q11 r11)
    (try (refine hK _ _ ?_; clear hK K))
    refine wpAny_ready (rs := [2]) (by kernel_rfl) (by simp) ?_
    refine AllReady.cons rfl (fun K hK => ?_) AllReady.nil
    go_simp
    refine hK _ _ ?_
    clear hK K
    refine wpAny_take (i := 3) (v := undef) rfl (by kernel_rfl) (by kernel_rfl) (by kernel_rfl) (fun _ _ _ h => h) (Or.inr ⟨by kernel_rfl, rfl⟩) ?_
    refine wpAny_take (i := 4) (v := undef) rfl (by kernel_rfl) (by kernel_rfl) (by kernel_rfl) (fun _ _ _ h => h) (Or.inr ⟨by kernel_rfl, rfl⟩) ?_
    refine wpAny_ready (rs := [5]) (by kernel_rfl) (by simp) ?_
    refine AllReady.cons rfl (fun K hK => ?_) AllReady.nil
    go_simp
    refine hK _ _ ?_
    clear hK K
    refine wpAny_ready (rs := [6]) (by kernel_rfl) (by simp) ?_
    refine AllReady.cons rfl (fun K hK => ?_) AllReady.nil
    go_simp
    refine hK _ _ ?_
    clear hK K
    refine wpAny_take (i := 7) (v := undef) rfl (by kernel_rfl) (by kernel_rfl) (by kernel_rfl) (fun _ _ _ h => h) (Or.inr ⟨by kernel_rfl, rfl⟩) ?_
    refine wpAny_take (i := 8) (v := undef) rfl (by kernel_rfl) (by kernel_rfl) (by kernel_rfl) (fun _ _ _ h => h) (Or.inr ⟨by kernel_rfl, rfl⟩) ?_
    refine wpAny_ready (rs := [9]) (by kernel_rfl) (by simp) ?_
    refine AllReady.cons rfl (fun K hK => ?_) AllReady.nil
    go_simp
    refine hK _ _ ?_
    clear hK K
    refine wpAny_ready (rs := [10]) (by kernel_rfl) (by simp) ?_
    refine AllReady.cons rfl (fun K hK => ?_) AllReady.nil
    go_simp
    refine hK _ _ ?_
    clear hK K
    refine wpAny_take (i := 11) (v := undef) rfl (by kernel_rfl) (by kernel_rfl) (by kernel_rfl) (fun _ _ _ h => h) (Or.inr ⟨by kernel_rfl, rfl⟩) ?_
    refine wpAny_take (i := 12) (v := undef) rfl (by kernel_rfl) (by kernel_rfl) (by kernel_rfl) (fun _ _ _ h => h) (Or.inr ⟨by kernel_rfl, rfl⟩) ?_
    refine wpAny_take (i := 13) (v := undef) rfl (by kernel_rfl) (by kernel_rfl) (by kernel_rfl) (fun _ _ _ h => h) (Or.inr ⟨by kernel_rfl, rfl⟩) ?_
    refine wpAny_take (i := 14) (v := undef) rfl (by kernel_rfl) (by kernel_rfl) (by kernel_rfl) (fun _ _ _ h => h) (Or.inr ⟨by kernel_rfl, rfl⟩) ?_
    refine wpAny_take (i := 15) (v := undef) rfl (by kernel_rfl) (by kernel_rfl) (by kernel_rfl) (fun _ _ _ h => h) (Or.inr ⟨by kernel_rfl, rfl⟩) ?_
    refine wpAny_take (i := 16) (v := undef) rfl (by kernel_rfl) (by kernel_rfl) (by kernel_rfl) (fun _ _ _ h => h) (Or.inr ⟨by kernel_rfl, rfl⟩) ?_
    refine wpAny_take (i := 17) (v := undef) rfl (by kernel_rfl) (by kernel_rfl) (by kernel_rfl) (fun _ _ _ h => h) (Or.inr ⟨by kernel_rfl, rfl⟩) ?_
    refine wpAny_ready (rs := [18]) (by kernel_rfl) (by simp) ?_
    refine AllReady.cons rfl (fun K hK => ?_) AllReady.nil
    go_simp
    refine hK _ _ ?_
    clear hK K
    refine wpAny_ready (rs := [19]) (by kernel_rfl) (by simp) ?_
    refine AllReady.cons rfl (fun K hK => ?_) AllReady.nil
    go_simp
    refine hK _ _ ?_
    clear hK K
    refine wpAny_done (by kernel_rfl) ?_ _
    have HB := T0.below
    clear T0
    go_wp2
    go_ret
    exact ⟨by rw [HO.out]; rfl, by first | exact HB | exact HB.drew⟩
end Go.Proofs.Ytppbfdpdcgjfcaa

/- How a value of four words reads as data: opened and shut. -/
namespace Go.Proofs.Ytppbfdpdcgjfcaa
open Go.ChangeShapes Go.WideShapes Go.ChangeAt Go.RowKit Go.Joins
theorem Try.own : ownKnob Try.prog.godebug = none := by kernel_rfl
theorem Try.cells28 : Try.prog.cellsOf 24 = 4 := by kernel_rfl
theorem word_of_wf {x : Int} (h : (Lit.int .u64 x).wf = true) : Word x := by
  simp [Lit.wf, IntKind.min, IntKind.max, IntKind.signed, IntKind.bits] at h
  exact ⟨by omega, by omega⟩
theorem int_of_wf {x : Int} (h : (Lit.int .i64 x).wf = true) : -9223372036854775808 ≤ x ∧ x ≤ 9223372036854775807 := by
  simp [Lit.wf, IntKind.min, IntKind.max, IntKind.signed, IntKind.bits] at h
  exact ⟨by omega, by omega⟩
set_option maxRecDepth 100000 in
/-- A value of four words, opened. -/
theorem open_wide {H : Type} {enc : TypeId × Value → H} {w : World} {b0 : Nat} {v : Value} {d : DataW H} {p : List MemPlace} (hv : Value.okWide Try.prog w .any b0 24 v) (h : DataW.Trod enc Try.prog w 0 (fun _ => true) true 24 v d p) :
    ∃ a3 a2 a1 a0 : Int, v = .agg #[.int .u64 a3, .int .u64 a2, .int .u64 a1, .int .u64 a0] ∧ d = .agg [.lit (.int .u64 a3), .lit (.int .u64 a2), .lit (.int .u64 a1), .lit (.int .u64 a0)] ∧ p = [] ∧ (Lit.int .u64 a3).wf = true ∧ (Lit.int .u64 a2).wf = true ∧ (Lit.int .u64 a1).wf = true ∧ (Lit.int .u64 a0).wf = true := by
  obtain ⟨c0, c1, c2, c3, y0, y1, y2, y3, m, rfl, rfl, rfl, hy0, hy1, hy2, hy3⟩ := open_agg4 Try.underlying24 (by kernel_rfl) Try.cells28 hv h
  obtain ⟨a, e0, rfl, wa⟩ := DataW.trod_int Try.underlying22 hy0
  obtain ⟨b, e1, rfl, wb⟩ := DataW.trod_int Try.underlying22 hy1
  obtain ⟨c, e2, rfl, wc⟩ := DataW.trod_int Try.underlying22 hy2
  obtain ⟨e, e3, rfl, we⟩ := DataW.trod_int Try.underlying22 hy3
  simp at e0 e1 e2 e3
  subst e0 e1 e2 e3
  exact ⟨a, b, c, e, rfl, rfl, rfl, wa, wb, wc, we⟩
theorem shut_wide {H : Type} {enc : TypeId × Value → H} {w : World} {base : Nat} {spare : TypeId → Bool} {held : Bool} {a3 a2 a1 a0 : Int} (w3 : (Lit.int .u64 a3).wf = true) (w2 : (Lit.int .u64 a2).wf = true) (w1 : (Lit.int .u64 a1).wf = true) (w0 : (Lit.int .u64 a0).wf = true) :
    DataW.Trod enc Try.prog w base spare held 24 (.agg #[.int .u64 a3, .int .u64 a2, .int .u64 a1, .int .u64 a0]) (.agg [.lit (.int .u64 a3), .lit (.int .u64 a2), .lit (.int .u64 a1), .lit (.int .u64 a0)]) [] :=
  shut_agg4 (y0 := (.lit (.int .u64 a3), [])) (y1 := (.lit (.int .u64 a2), [])) (y2 := (.lit (.int .u64 a1), [])) (y3 := (.lit (.int .u64 a0), [])) Try.underlying24 (by kernel_rfl) Try.cells28
    ⟨1, by simp [DataW.trod, Try.underlying22, w3]⟩ ⟨1, by simp [DataW.trod, Try.underlying22, w2]⟩ ⟨1, by simp [DataW.trod, Try.underlying22, w1]⟩ ⟨1, by simp [DataW.trod, Try.underlying22, w0]⟩
end Go.Proofs.Ytppbfdpdcgjfcaa
