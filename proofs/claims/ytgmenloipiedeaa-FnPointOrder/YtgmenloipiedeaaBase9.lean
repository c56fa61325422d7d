/- Part 9 of the walks that the proof leans on. -/
import Derived.Test.YtgmenloipiedeaaBase8
import Derived.Deep.RegionHeld3
import Derived.Deep.RegionWith
import Derived.Test.YtgmenloipiedeaaBase2
import Derived.Test.YtgmenloipiedeaaBase5
import Derived.Deep.DeepCutAuto
/- The walk of what a long is when it is divided by a divisor of it, told as four words. -/
namespace Go.Proofs.Ytgmenloipiedeaa
open Go.RowKit
theorem sl_below (x0 x1 x2 x3 x4 x5 x6 x7 : Int) (wx : Words [x0, x1, x2, x3, x4, x5, x6, x7]) : (x7 / 9223372036854775808 == 1) = decide ((sl x0 x1 x2 x3 x4 x5 x6 x7) < 0) := by
  obtain ⟨t1, t2, t3⟩ := sl_top wx
  have h7 := (words8_of wx).2.2.2.2.2.2.2
  rw [Bool.eq_iff_iff]
  unfold sl
  unfold Word at h7
  simp only [beq_iff_eq, decide_eq_true_eq]
  split <;> omega
theorem isBelowL_det (x0 x1 x2 x3 x4 x5 x6 x7 : Int) (wx : Words [x0, x1, x2, x3, x4, x5, x6, x7]) (w : World) : Calls Try.prog 84 #[L8 x0 x1 x2 x3 x4 x5 x6 x7] w (VP (.bool (decide ((sl x0 x1 x2 x3 x4 x5 x6 x7) < 0))) w) := by
  refine (isBelowL_any x0 x1 x2 x3 x4 x5 x6 x7 w).mono ?_
  rintro e w1 ⟨rfl, hB⟩
  exact ⟨by rw [sl_below x0 x1 x2 x3 x4 x5 x6 x7 wx], hB⟩
theorem sizeX_det (x0 x1 x2 x3 x4 x5 x6 x7 : Int) (wx : Words [x0, x1, x2, x3, x4, x5, x6, x7]) (u0 u1 u2 u3 u4 u5 u6 u7 : Int) (hu : Words [u0, u1, u2, u3, u4, u5, u6, u7]) (hv : val64 [u0, u1, u2, u3, u4, u5, u6, u7] = ((sl x0 x1 x2 x3 x4 x5 x6 x7).natAbs : Int)) (w : World) : Calls Try.prog 83 #[L8 x0 x1 x2 x3 x4 x5 x6 x7] w (VP (L8 u0 u1 u2 u3 u4 u5 u6 u7) w) := by
  refine (sizeL_any x0 x1 x2 x3 x4 x5 x6 x7 wx w).mono ?_
  rintro e w1 ⟨zs, rfl, zl, zw, zv, hB⟩
  obtain rfl : zs = [u0, u1, u2, u3, u4, u5, u6, u7] := val64_inj zw hu (zl.trans rfl) (zv.trans hv.symm)
  exact ⟨rfl, hB⟩
theorem sh_cells {x0 x1 x2 x3 x4 x5 x6 x7 y0 y1 y2 y3 y4 y5 y6 y7 : Int} {w W : World} {cs : List (List Value)} (h : ArgsB w W ([.int .u64 x0, .int .u64 x1, .int .u64 x2, .int .u64 x3, .int .u64 x4, .int .u64 x5, .int .u64 x6, .int .u64 x7] :: [.int .u64 y0, .int .u64 y1, .int .u64 y2, .int .u64 y3, .int .u64 y4, .int .u64 y5, .int .u64 y6, .int .u64 y7] :: cs)) : (fun w' => w'.cell? ⟨w.heap.size, 0, none⟩ = some (.int .u64 x0) ∧ w'.cell? ⟨w.heap.size, 1, none⟩ = some (.int .u64 x1) ∧ w'.cell? ⟨w.heap.size, 2, none⟩ = some (.int .u64 x2) ∧ w'.cell? ⟨w.heap.size, 3, none⟩ = some (.int .u64 x3) ∧ w'.cell? ⟨w.heap.size, 4, none⟩ = some (.int .u64 x4) ∧ w'.cell? ⟨w.heap.size, 5, none⟩ = some (.int .u64 x5) ∧ w'.cell? ⟨w.heap.size, 6, none⟩ = some (.int .u64 x6) ∧ w'.cell? ⟨w.heap.size, 7, none⟩ = some (.int .u64 x7) ∧ w'.cell? ⟨w.heap.size + 1, 0, none⟩ = some (.int .u64 y0) ∧ w'.cell? ⟨w.heap.size + 1, 1, none⟩ = some (.int .u64 y1) ∧ w'.cell? ⟨w.heap.size + 1, 2, none⟩ = some (.int .u64 y2) ∧ w'.cell? ⟨w.heap.size + 1, 3, none⟩ = some (.int .u64 y3) ∧ w'.cell? ⟨w.heap.size + 1, 4, none⟩ = some (.int .u64 y4) ∧ w'.cell? ⟨w.heap.size + 1, 5, none⟩ = some (.int .u64 y5) ∧ w'.cell? ⟨w.heap.size + 1, 6, none⟩ = some (.int .u64 y6) ∧ w'.cell? ⟨w.heap.size + 1, 7, none⟩ = some (.int .u64 y7)) W :=
  ⟨(h.b 0 rfl).c 0 rfl, (h.b 0 rfl).c 1 rfl, (h.b 0 rfl).c 2 rfl, (h.b 0 rfl).c 3 rfl, (h.b 0 rfl).c 4 rfl, (h.b 0 rfl).c 5 rfl, (h.b 0 rfl).c 6 rfl, (h.b 0 rfl).c 7 rfl, (h.b 1 rfl).c 0 rfl, (h.b 1 rfl).c 1 rfl, (h.b 1 rfl).c 2 rfl, (h.b 1 rfl).c 3 rfl, (h.b 1 rfl).c 4 rfl, (h.b 1 rfl).c 5 rfl, (h.b 1 rfl).c 6 rfl, (h.b 1 rfl).c 7 rfl⟩
theorem sh_cells2 {x0 x1 x2 x3 x4 x5 x6 x7 y0 y1 y2 y3 y4 y5 y6 y7 q0 q1 q2 q3 q4 q5 q6 q7 : Int} {w W : World} {gq : Nat} (h : ArgsB w W [[.int .u64 x0, .int .u64 x1, .int .u64 x2, .int .u64 x3, .int .u64 x4, .int .u64 x5, .int .u64 x6, .int .u64 x7], [.int .u64 y0, .int .u64 y1, .int .u64 y2, .int .u64 y3, .int .u64 y4, .int .u64 y5, .int .u64 y6, .int .u64 y7]]) (G : Blk W gq [.int .u64 q0, .int .u64 q1, .int .u64 q2, .int .u64 q3, .int .u64 q4, .int .u64 q5, .int .u64 q6, .int .u64 q7]) : (fun w' => w'.cell? ⟨w.heap.size, 0, none⟩ = some (.int .u64 x0) ∧ w'.cell? ⟨w.heap.size, 1, none⟩ = some (.int .u64 x1) ∧ w'.cell? ⟨w.heap.size, 2, none⟩ = some (.int .u64 x2) ∧ w'.cell? ⟨w.heap.size, 3, none⟩ = some (.int .u64 x3) ∧ w'.cell? ⟨w.heap.size, 4, none⟩ = some (.int .u64 x4) ∧ w'.cell? ⟨w.heap.size, 5, none⟩ = some (.int .u64 x5) ∧ w'.cell? ⟨w.heap.size, 6, none⟩ = some (.int .u64 x6) ∧ w'.cell? ⟨w.heap.size, 7, none⟩ = some (.int .u64 x7) ∧ w'.cell? ⟨gq, 0, none⟩ = some (.int .u64 q0) ∧ w'.cell? ⟨gq, 1, none⟩ = some (.int .u64 q1) ∧ w'.cell? ⟨gq, 2, none⟩ = some (.int .u64 q2) ∧ w'.cell? ⟨gq, 3, none⟩ = some (.int .u64 q3) ∧ w'.cell? ⟨gq, 4, none⟩ = some (.int .u64 q4) ∧ w'.cell? ⟨gq, 5, none⟩ = some (.int .u64 q5) ∧ w'.cell? ⟨gq, 6, none⟩ = some (.int .u64 q6) ∧ w'.cell? ⟨gq, 7, none⟩ = some (.int .u64 q7)) W :=
  ⟨(h.b 0 rfl).c 0 rfl, (h.b 0 rfl).c 1 rfl, (h.b 0 rfl).c 2 rfl, (h.b 0 rfl).c 3 rfl, (h.b 0 rfl).c 4 rfl, (h.b 0 rfl).c 5 rfl, (h.b 0 rfl).c 6 rfl, (h.b 0 rfl).c 7 rfl, G.c 0 rfl, G.c 1 rfl, G.c 2 rfl, G.c 3 rfl, G.c 4 rfl, G.c 5 rfl, G.c 6 rfl, G.c 7 rfl⟩
theorem ArgsB.drop3 {w W : World} {a b c : List Value} (h : ArgsB w W [a, b, c]) : ArgsB w W [a, b] := by
  refine ⟨h.1, fun j vs hj => h.2 j vs ?_⟩
  match j, hj with
  | 0, hj => exact hj
  | 1, hj => exact hj
  | j + 2, hj => simp at hj
theorem sh_args (x0 x1 x2 x3 x4 x5 x6 x7 y0 y1 y2 y3 y4 y5 y6 y7 : Int) (w : World) : ArgsB w (((w.alloc (.cells #[.int .u64 x0, .int .u64 x1, .int .u64 x2, .int .u64 x3, .int .u64 x4, .int .u64 x5, .int .u64 x6, .int .u64 x7] 67)).alloc (.cells #[.int .u64 y0, .int .u64 y1, .int .u64 y2, .int .u64 y3, .int .u64 y4, .int .u64 y5, .int .u64 y6, .int .u64 y7] 67)).alloc (.cells #[.int .u64 0, .int .u64 0, .int .u64 0, .int .u64 0] 26)) [[.int .u64 x0, .int .u64 x1, .int .u64 x2, .int .u64 x3, .int .u64 x4, .int .u64 x5, .int .u64 x6, .int .u64 x7], [.int .u64 y0, .int .u64 y1, .int .u64 y2, .int .u64 y3, .int .u64 y4, .int .u64 y5, .int .u64 y6, .int .u64 y7], [.int .u64 0, .int .u64 0, .int .u64 0, .int .u64 0]] := by
  refine ⟨(((Below.refl _ _).alloc (Nat.le_refl _) _).alloc (by simp) _).alloc (by simp; omega) _, fun j vs hj => ?_⟩
  match j, hj with
  | 0, hj => cases hj; exact ((Blk.new w [.int .u64 x0, .int .u64 x1, .int .u64 x2, .int .u64 x3, .int .u64 x4, .int .u64 x5, .int .u64 x6, .int .u64 x7] 67 rfl).alloc _).alloc _
  | 1, hj => cases hj; exact (Blk.new (w.alloc (.cells #[.int .u64 x0, .int .u64 x1, .int .u64 x2, .int .u64 x3, .int .u64 x4, .int .u64 x5, .int .u64 x6, .int .u64 x7] 67)) [.int .u64 y0, .int .u64 y1, .int .u64 y2, .int .u64 y3, .int .u64 y4, .int .u64 y5, .int .u64 y6, .int .u64 y7] 67 (by simp)).alloc _
  | 2, hj => cases hj; exact Blk.new ((w.alloc (.cells #[.int .u64 x0, .int .u64 x1, .int .u64 x2, .int .u64 x3, .int .u64 x4, .int .u64 x5, .int .u64 x6, .int .u64 x7] 67)).alloc (.cells #[.int .u64 y0, .int .u64 y1, .int .u64 y2, .int .u64 y3, .int .u64 y4, .int .u64 y5, .int .u64 y6, .int .u64 y7] 67)) [.int .u64 0, .int .u64 0, .int .u64 0, .int .u64 0] 26 (by simp)
  | j + 3, hj => simp at hj
/-- What is told of a quotient with its sign. -/
def shareZ (x d : Int) (b : Bool) : Int := if decide (x < 0) != b then -((x.natAbs : Int) / d) else (x.natAbs : Int) / d
set_option maxRecDepth 100000 in
set_option maxHeartbeats 4000000 in
theorem share_any (x0 x1 x2 x3 x4 x5 x6 x7 y0 y1 y2 y3 y4 y5 y6 y7 : Int) (b : Bool) (wx : Words [x0, x1, x2, x3, x4, x5, x6, x7]) (wy : Words [y0, y1, y2, y3, y4, y5, y6, y7]) (hy : 0 < (val64 [y0, y1, y2, y3, y4, y5, y6, y7])) (hX : -6703903964971298549787012499102923063739682910296196688861780721860882015036773488400937149083451713845015929093243025426876941405973284973216824503042048 < (sl x0 x1 x2 x3 x4 x5 x6 x7)) (w : World) : Calls Try.prog 49 #[L8 x0 x1 x2 x3 x4 x5 x6 x7, L8 y0 y1 y2 y3 y4 y5 y6 y7, .bool b] w (VP (tellV (shareZ (sl x0 x1 x2 x3 x4 x5 x6 x7) (val64 [y0, y1, y2, y3, y4, y5, y6, y7]) b)) w) := by
  have T0 := sh_args x0 x1 x2 x3 x4 x5 x6 x7 y0 y1 y2 y3 y4 y5 y6 y7 w
  have hX2 : (((sl x0 x1 x2 x3 x4 x5 x6 x7).natAbs : Int)) < 6703903964971298549787012499102923063739682910296196688861780721860882015036773488400937149083451713845015929093243025426876941405973284973216824503042048 := by
    obtain ⟨t1, t2, t3⟩ := sl_top wx
    revert hX
    unfold sl
    split <;> omega
  have hq0 : 0 ≤ (((sl x0 x1 x2 x3 x4 x5 x6 x7).natAbs : Int) / (val64 [y0, y1, y2, y3, y4, y5, y6, y7])) := Int.ediv_nonneg (by omega) (by omega)
  have hq1 : (((sl x0 x1 x2 x3 x4 x5 x6 x7).natAbs : Int) / (val64 [y0, y1, y2, y3, y4, y5, y6, y7])) ≤ ((sl x0 x1 x2 x3 x4 x5 x6 x7).natAbs : Int) := Int.ediv_le_self _ (by omega)
  have hr0 := Int.emod_nonneg ((sl x0 x1 x2 x3 x4 x5 x6 x7).natAbs : Int) (b := (val64 [y0, y1, y2, y3, y4, y5, y6, y7])) (by omega)
  have hr1 := Int.emod_lt_of_pos ((sl x0 x1 x2 x3 x4 x5 x6 x7).natAbs : Int) hy
  have hy1 := (sl_top wy).2.2
  obtain ⟨u0, u1, u2, u3, u4, u5, u6, u7, wu, uv⟩ := words8_ex ((sl x0 x1 x2 x3 x4 x5 x6 x7).natAbs : Int) (by omega) (by omega)
  obtain ⟨q0, q1, q2, q3, q4, q5, q6, q7, wq, qv⟩ := words8_ex (((sl x0 x1 x2 x3 x4 x5 x6 x7).natAbs : Int) / (val64 [y0, y1, y2, y3, y4, y5, y6, y7])) hq0 (by omega)
  obtain ⟨r0, r1, r2, r3, r4, r5, r6, r7, wr, rv⟩ := words8_ex (((sl x0 x1 x2 x3 x4 x5 x6 x7).natAbs : Int) % (val64 [y0, y1, y2, y3, y4, y5, y6, y7])) hr0 (by omega)
  have SA := sizeX_det x0 x1 x2 x3 x4 x5 x6 x7 wx u0 u1 u2 u3 u4 u5 u6 u7 wu uv
  have DV := divL_det u0 u1 u2 u3 u4 u5 u6 u7 y0 y1 y2 y3 y4 y5 y6 y7 q0 q1 q2 q3 q4 q5 q6 q7 r0 r1 r2 r3 r4 r5 r6 r7 wu wy wq wr hy (by rw [qv, uv]) (by rw [rv, uv])
  have NA := isBelowL_det x0 x1 x2 x3 x4 x5 x6 x7 wx
  have SG := signedL_any q0 q1 q2 q3 q4 q5 q6 q7 (decide ((sl x0 x1 x2 x3 x4 x5 x6 x7) < 0) != b) wq (by rw [qv]; omega)
  rw [qv] at SG
  obtain ⟨c3, c2, c1, c0, HT, -⟩ := tellV_ex (shareZ (sl x0 x1 x2 x3 x4 x5 x6 x7) (val64 [y0, y1, y2, y3, y4, y5, y6, y7]) b)
  have HV : Hid (tellV (shareZ (sl x0 x1 x2 x3 x4 x5 x6 x7) (val64 [y0, y1, y2, y3, y4, y5, y6, y7]) b) = .tuple #[.agg #[.int .u64 c3, .int .u64 c2, .int .u64 c1, .int .u64 c0], .bool (told (shareZ (sl x0 x1 x2 x3 x4 x5 x6 x7) (val64 [y0, y1, y2, y3, y4, y5, y6, y7]) b))]) := HT
  obtain ⟨t, ht⟩ : ∃ t, told (shareZ (sl x0 x1 x2 x3 x4 x5 x6 x7) (val64 [y0, y1, y2, y3, y4, y5, y6, y7]) b) = t := ⟨_, rfl⟩
  rw [ht] at HT HV
  have HZ : Hid ((if (decide ((sl x0 x1 x2 x3 x4 x5 x6 x7) < 0) != b) = true then -(((sl x0 x1 x2 x3 x4 x5 x6 x7).natAbs : Int) / (val64 [y0, y1, y2, y3, y4, y5, y6, y7])) else (((sl x0 x1 x2 x3 x4 x5 x6 x7).natAbs : Int) / (val64 [y0, y1, y2, y3, y4, y5, y6, y7]))) = shareZ (sl x0 x1 x2 x3 x4 x5 x6 x7) (val64 [y0, y1, y2, y3, y4, y5, y6, y7]) b) := rfl
  clear ht hX hX2 hq0 hq1 hr0 hr1 hy1 uv qv rv
  go_enter Try.func49, Try.ntmps49
  go_upto_region 1 with fail
  generalize (((w.alloc (.cells #[.int .u64 x0, .int .u64 x1, .int .u64 x2, .int .u64 x3, .int .u64 x4, .int .u64 x5, .int .u64 x6, .int .u64 x7] 67)).alloc (.cells #[.int .u64 y0, .int .u64 y1, .int .u64 y2, .int .u64 y3, .int .u64 y4, .int .u64 y5, .int .u64 y6, .int .u64 y7] 67)).alloc (.cells #[.int .u64 0, .int .u64 0, .int .u64 0, .int .u64 0] 26)) = W at *
  have hlw := (T0.b 2 rfl).lt
  go_cut [8, 9] (fun p q wx => CutX w wx [[.int .u64 x0, .int .u64 x1, .int .u64 x2, .int .u64 x3, .int .u64 x4, .int .u64 x5, .int .u64 x6, .int .u64 x7], [.int .u64 y0, .int .u64 y1, .int .u64 y2, .int .u64 y3, .int .u64 y4, .int .u64 y5, .int .u64 y6, .int .u64 y7], [.int .u64 0, .int .u64 0, .int .u64 0, .int .u64 0]] [.int .u64 q0, .int .u64 q1, .int .u64 q2, .int .u64 q3, .int .u64 q4, .int .u64 q5, .int .u64 q6, .int .u64 q7] [.int .u64 r0, .int .u64 r1, .int .u64 r2, .int .u64 r3, .int .u64 r4, .int .u64 r5, .int .u64 r6, .int .u64 r7] p q)
  case first =>
    go_region_held3 (fun w' => w'.cell? ⟨w.heap.size, 0, none⟩ = some (.int .u64 x0) ∧ w'.cell? ⟨w.heap.size, 1, none⟩ = some (.int .u64 x1) ∧ w'.cell? ⟨w.heap.size, 2, none⟩ = some (.int .u64 x2) ∧ w'.cell? ⟨w.heap.size, 3, none⟩ = some (.int .u64 x3) ∧ w'.cell? ⟨w.heap.size, 4, none⟩ = some (.int .u64 x4) ∧ w'.cell? ⟨w.heap.size, 5, none⟩ = some (.int .u64 x5) ∧ w'.cell? ⟨w.heap.size, 6, none⟩ = some (.int .u64 x6) ∧ w'.cell? ⟨w.heap.size, 7, none⟩ = some (.int .u64 x7) ∧ w'.cell? ⟨w.heap.size + 1, 0, none⟩ = some (.int .u64 y0) ∧ w'.cell? ⟨w.heap.size + 1, 1, none⟩ = some (.int .u64 y1) ∧ w'.cell? ⟨w.heap.size + 1, 2, none⟩ = some (.int .u64 y2) ∧ w'.cell? ⟨w.heap.size + 1, 3, none⟩ = some (.int .u64 y3) ∧ w'.cell? ⟨w.heap.size + 1, 4, none⟩ = some (.int .u64 y4) ∧ w'.cell? ⟨w.heap.size + 1, 5, none⟩ = some (.int .u64 y5) ∧ w'.cell? ⟨w.heap.size + 1, 6, none⟩ = some (.int .u64 y6) ∧ w'.cell? ⟨w.heap.size + 1, 7, none⟩ = some (.int .u64 y7)) ((refine sh_cells (cs := [[.int .u64 0, .int .u64 0, .int .u64 0, .int .u64 0]]) ?_ <;> repeat (first | (with_reducible exact T0) | (with_reducible refine ArgsB.drew ?_) | (with_reducible refine ArgsB.alloc ?_ _) | (with_reducible refine ArgsB.set8g ?_ (by simp; omega) _ _ _ _ _ _ _ _))))
      (first
        | (go_at_call 83; refine (SA _).mono ?_; rintro e w1 ⟨rfl, hB⟩; (first | (have T1 : ArgsB w w1 [[.int .u64 x0, .int .u64 x1, .int .u64 x2, .int .u64 x3, .int .u64 x4, .int .u64 x5, .int .u64 x6, .int .u64 x7], [.int .u64 y0, .int .u64 y1, .int .u64 y2, .int .u64 y3, .int .u64 y4, .int .u64 y5, .int .u64 y6, .int .u64 y7], [.int .u64 0, .int .u64 0, .int .u64 0, .int .u64 0]] := (by with_reducible exact T0.step hB); have tltw1 := (T0.b 2 rfl).lt; (try (replace G0 := G0.step hB; have j0c := G0.c 0 rfl; have j0f := G0.f 0 rfl; have j1c := G0.c 1 rfl; have j1f := G0.f 1 rfl; have j2c := G0.c 2 rfl; have j2f := G0.f 2 rfl; have j3c := G0.c 3 rfl; have j3f := G0.f 3 rfl; have j4c := G0.c 4 rfl; have j4f := G0.f 4 rfl; have j5c := G0.c 5 rfl; have j5f := G0.f 5 rfl; have j6c := G0.c 6 rfl; have j6f := G0.f 6 rfl; have j7c := G0.c 7 rfl; have j7f := G0.f 7 rfl; have jlt := G0.lt)); (try (replace G1 := G1.step hB; have k0c := G1.c 0 rfl; have k0f := G1.f 0 rfl; have k1c := G1.c 1 rfl; have k1f := G1.f 1 rfl; have k2c := G1.c 2 rfl; have k2f := G1.f 2 rfl; have k3c := G1.c 3 rfl; have k3f := G1.f 3 rfl; have k4c := G1.c 4 rfl; have k4f := G1.f 4 rfl; have k5c := G1.c 5 rfl; have k5f := G1.f 5 rfl; have k6c := G1.c 6 rfl; have k6f := G1.f 6 rfl; have k7c := G1.c 7 rfl; have k7f := G1.f 7 rfl; have klt := G1.lt))) | (have T1 : ArgsB w w1 [[.int .u64 x0, .int .u64 x1, .int .u64 x2, .int .u64 x3, .int .u64 x4, .int .u64 x5, .int .u64 x6, .int .u64 x7], [.int .u64 y0, .int .u64 y1, .int .u64 y2, .int .u64 y3, .int .u64 y4, .int .u64 y5, .int .u64 y6, .int .u64 y7], [.int .u64 0, .int .u64 0, .int .u64 0, .int .u64 0]] := (by with_reducible exact T0.drew.step hB); have tltw1 := (T0.b 2 rfl).lt; (try (replace G0 := G0.drew.step hB; have j0c := G0.c 0 rfl; have j0f := G0.f 0 rfl; have j1c := G0.c 1 rfl; have j1f := G0.f 1 rfl; have j2c := G0.c 2 rfl; have j2f := G0.f 2 rfl; have j3c := G0.c 3 rfl; have j3f := G0.f 3 rfl; have j4c := G0.c 4 rfl; have j4f := G0.f 4 rfl; have j5c := G0.c 5 rfl; have j5f := G0.f 5 rfl; have j6c := G0.c 6 rfl; have j6f := G0.f 6 rfl; have j7c := G0.c 7 rfl; have j7f := G0.f 7 rfl; have jlt := G0.lt)); (try (replace G1 := G1.drew.step hB; have k0c := G1.c 0 rfl; have k0f := G1.f 0 rfl; have k1c := G1.c 1 rfl; have k1f := G1.f 1 rfl; have k2c := G1.c 2 rfl; have k2f := G1.f 2 rfl; have k3c := G1.c 3 rfl; have k3f := G1.f 3 rfl; have k4c := G1.c 4 rfl; have k4f := G1.f 4 rfl; have k5c := G1.c 5 rfl; have k5f := G1.f 5 rfl; have k6c := G1.c 6 rfl; have k6f := G1.f 6 rfl; have k7c := G1.c 7 rfl; have k7f := G1.f 7 rfl; have klt := G1.lt))) | (have T1 : ArgsB w w1 [[.int .u64 x0, .int .u64 x1, .int .u64 x2, .int .u64 x3, .int .u64 x4, .int .u64 x5, .int .u64 x6, .int .u64 x7], [.int .u64 y0, .int .u64 y1, .int .u64 y2, .int .u64 y3, .int .u64 y4, .int .u64 y5, .int .u64 y6, .int .u64 y7], [.int .u64 0, .int .u64 0, .int .u64 0, .int .u64 0]] := (by with_reducible exact (T0.alloc _).step hB); have tltw1 := (T0.b 2 rfl).lt; (first | (have G1 := (Blk.new _ [.int .u64 0, .int .u64 0, .int .u64 0, .int .u64 0, .int .u64 0, .int .u64 0, .int .u64 0, .int .u64 0] _ rfl).step hB; have hgg := G0.lt; replace G0 := (G0.alloc _).step hB; have j0c := G0.c 0 rfl; have j0f := G0.f 0 rfl; have j1c := G0.c 1 rfl; have j1f := G0.f 1 rfl; have j2c := G0.c 2 rfl; have j2f := G0.f 2 rfl; have j3c := G0.c 3 rfl; have j3f := G0.f 3 rfl; have j4c := G0.c 4 rfl; have j4f := G0.f 4 rfl; have j5c := G0.c 5 rfl; have j5f := G0.f 5 rfl; have j6c := G0.c 6 rfl; have j6f := G0.f 6 rfl; have j7c := G0.c 7 rfl; have j7f := G0.f 7 rfl; have jlt := G0.lt; have k0c := G1.c 0 rfl; have k0f := G1.f 0 rfl; have k1c := G1.c 1 rfl; have k1f := G1.f 1 rfl; have k2c := G1.c 2 rfl; have k2f := G1.f 2 rfl; have k3c := G1.c 3 rfl; have k3f := G1.f 3 rfl; have k4c := G1.c 4 rfl; have k4f := G1.f 4 rfl; have k5c := G1.c 5 rfl; have k5f := G1.f 5 rfl; have k6c := G1.c 6 rfl; have k6f := G1.f 6 rfl; have k7c := G1.c 7 rfl; have k7f := G1.f 7 rfl; have klt := G1.lt) | (have G0 := (Blk.new _ [.int .u64 0, .int .u64 0, .int .u64 0, .int .u64 0, .int .u64 0, .int .u64 0, .int .u64 0, .int .u64 0] _ rfl).step hB; have j0c := G0.c 0 rfl; have j0f := G0.f 0 rfl; have j1c := G0.c 1 rfl; have j1f := G0.f 1 rfl; have j2c := G0.c 2 rfl; have j2f := G0.f 2 rfl; have j3c := G0.c 3 rfl; have j3f := G0.f 3 rfl; have j4c := G0.c 4 rfl; have j4f := G0.f 4 rfl; have j5c := G0.c 5 rfl; have j5f := G0.f 5 rfl; have j6c := G0.c 6 rfl; have j6f := G0.f 6 rfl; have j7c := G0.c 7 rfl; have j7f := G0.f 7 rfl; have jlt := G0.lt))) | (have T1 : ArgsB w w1 [[.int .u64 x0, .int .u64 x1, .int .u64 x2, .int .u64 x3, .int .u64 x4, .int .u64 x5, .int .u64 x6, .int .u64 x7], [.int .u64 y0, .int .u64 y1, .int .u64 y2, .int .u64 y3, .int .u64 y4, .int .u64 y5, .int .u64 y6, .int .u64 y7], [.int .u64 0, .int .u64 0, .int .u64 0, .int .u64 0]] := (by with_reducible exact (T0.alloc _).drew.step hB); have tltw1 := (T0.b 2 rfl).lt; (first | (have G1 := (Blk.new _ [.int .u64 0, .int .u64 0, .int .u64 0, .int .u64 0, .int .u64 0, .int .u64 0, .int .u64 0, .int .u64 0] _ rfl).drew.step hB; have hgg := G0.lt; replace G0 := (G0.alloc _).drew.step hB; have j0c := G0.c 0 rfl; have j0f := G0.f 0 rfl; have j1c := G0.c 1 rfl; have j1f := G0.f 1 rfl; have j2c := G0.c 2 rfl; have j2f := G0.f 2 rfl; have j3c := G0.c 3 rfl; have j3f := G0.f 3 rfl; have j4c := G0.c 4 rfl; have j4f := G0.f 4 rfl; have j5c := G0.c 5 rfl; have j5f := G0.f 5 rfl; have j6c := G0.c 6 rfl; have j6f := G0.f 6 rfl; have j7c := G0.c 7 rfl; have j7f := G0.f 7 rfl; have jlt := G0.lt; have k0c := G1.c 0 rfl; have k0f := G1.f 0 rfl; have k1c := G1.c 1 rfl; have k1f := G1.f 1 rfl; have k2c := G1.c 2 rfl; have k2f := G1.f 2 rfl; have k3c := G1.c 3 rfl; have k3f := G1.f 3 rfl; have k4c := G1.c 4 rfl; have k4f := G1.f 4 rfl; have k5c := G1.c 5 rfl; have k5f := G1.f 5 rfl; have k6c := G1.c 6 rfl; have k6f := G1.f 6 rfl; have k7c := G1.c 7 rfl; have k7f := G1.f 7 rfl; have klt := G1.lt) | (have G0 := (Blk.new _ [.int .u64 0, .int .u64 0, .int .u64 0, .int .u64 0, .int .u64 0, .int .u64 0, .int .u64 0, .int .u64 0] _ rfl).drew.step hB; have j0c := G0.c 0 rfl; have j0f := G0.f 0 rfl; have j1c := G0.c 1 rfl; have j1f := G0.f 1 rfl; have j2c := G0.c 2 rfl; have j2f := G0.f 2 rfl; have j3c := G0.c 3 rfl; have j3f := G0.f 3 rfl; have j4c := G0.c 4 rfl; have j4f := G0.f 4 rfl; have j5c := G0.c 5 rfl; have j5f := G0.f 5 rfl; have j6c := G0.c 6 rfl; have j6f := G0.f 6 rfl; have j7c := G0.c 7 rfl; have j7f := G0.f 7 rfl; have jlt := G0.lt))) | (have T1 : ArgsB w w1 [[.int .u64 x0, .int .u64 x1, .int .u64 x2, .int .u64 x3, .int .u64 x4, .int .u64 x5, .int .u64 x6, .int .u64 x7], [.int .u64 y0, .int .u64 y1, .int .u64 y2, .int .u64 y3, .int .u64 y4, .int .u64 y5, .int .u64 y6, .int .u64 y7], [.int .u64 0, .int .u64 0, .int .u64 0, .int .u64 0]] := (by with_reducible exact ((T0.alloc _).alloc _).step hB); have tltw1 := (T0.b 2 rfl).lt; have G0 := ((Blk.new _ [.int .u64 0, .int .u64 0, .int .u64 0, .int .u64 0, .int .u64 0, .int .u64 0, .int .u64 0, .int .u64 0] _ rfl).alloc _).step hB; have G1 := (Blk.newS _ _ [.int .u64 0, .int .u64 0, .int .u64 0, .int .u64 0, .int .u64 0, .int .u64 0, .int .u64 0, .int .u64 0] _).step hB; have j0c := G0.c 0 rfl; have j0f := G0.f 0 rfl; have j1c := G0.c 1 rfl; have j1f := G0.f 1 rfl; have j2c := G0.c 2 rfl; have j2f := G0.f 2 rfl; have j3c := G0.c 3 rfl; have j3f := G0.f 3 rfl; have j4c := G0.c 4 rfl; have j4f := G0.f 4 rfl; have j5c := G0.c 5 rfl; have j5f := G0.f 5 rfl; have j6c := G0.c 6 rfl; have j6f := G0.f 6 rfl; have j7c := G0.c 7 rfl; have j7f := G0.f 7 rfl; have jlt := G0.lt; have k0c := G1.c 0 rfl; have k0f := G1.f 0 rfl; have k1c := G1.c 1 rfl; have k1f := G1.f 1 rfl; have k2c := G1.c 2 rfl; have k2f := G1.f 2 rfl; have k3c := G1.c 3 rfl; have k3f := G1.f 3 rfl; have k4c := G1.c 4 rfl; have k4f := G1.f 4 rfl; have k5c := G1.c 5 rfl; have k5f := G1.f 5 rfl; have k6c := G1.c 6 rfl; have k6f := G1.f 6 rfl; have k7c := G1.c 7 rfl; have k7f := G1.f 7 rfl; have klt := G1.lt) | (have T1 : ArgsB w w1 [[.int .u64 x0, .int .u64 x1, .int .u64 x2, .int .u64 x3, .int .u64 x4, .int .u64 x5, .int .u64 x6, .int .u64 x7], [.int .u64 y0, .int .u64 y1, .int .u64 y2, .int .u64 y3, .int .u64 y4, .int .u64 y5, .int .u64 y6, .int .u64 y7], [.int .u64 0, .int .u64 0, .int .u64 0, .int .u64 0]] := (by with_reducible exact ((T0.alloc _).alloc _).drew.step hB); have tltw1 := (T0.b 2 rfl).lt; have G0 := ((Blk.new _ [.int .u64 0, .int .u64 0, .int .u64 0, .int .u64 0, .int .u64 0, .int .u64 0, .int .u64 0, .int .u64 0] _ rfl).alloc _).drew.step hB; have G1 := (Blk.newS _ _ [.int .u64 0, .int .u64 0, .int .u64 0, .int .u64 0, .int .u64 0, .int .u64 0, .int .u64 0, .int .u64 0] _).drew.step hB; have j0c := G0.c 0 rfl; have j0f := G0.f 0 rfl; have j1c := G0.c 1 rfl; have j1f := G0.f 1 rfl; have j2c := G0.c 2 rfl; have j2f := G0.f 2 rfl; have j3c := G0.c 3 rfl; have j3f := G0.f 3 rfl; have j4c := G0.c 4 rfl; have j4f := G0.f 4 rfl; have j5c := G0.c 5 rfl; have j5f := G0.f 5 rfl; have j6c := G0.c 6 rfl; have j6f := G0.f 6 rfl; have j7c := G0.c 7 rfl; have j7f := G0.f 7 rfl; have jlt := G0.lt; have k0c := G1.c 0 rfl; have k0f := G1.f 0 rfl; have k1c := G1.c 1 rfl; have k1f := G1.f 1 rfl; have k2c := G1.c 2 rfl; have k2f := G1.f 2 rfl; have k3c := G1.c 3 rfl; have k3f := G1.f 3 rfl; have k4c := G1.c 4 rfl; have k4f := G1.f 4 rfl; have k5c := G1.c 5 rfl; have k5f := G1.f 5 rfl; have k6c := G1.c 6 rfl; have k6f := G1.f 6 rfl; have k7c := G1.c 7 rfl; have k7f := G1.f 7 rfl; have klt := G1.lt)); clear T0; have T0 := T1; clear T1; clear hB)
        | (go_at_call 90; refine (DV _).mono ?_; rintro e w2 ⟨rfl, hB⟩; (first | (have T1 : ArgsB w w2 [[.int .u64 x0, .int .u64 x1, .int .u64 x2, .int .u64 x3, .int .u64 x4, .int .u64 x5, .int .u64 x6, .int .u64 x7], [.int .u64 y0, .int .u64 y1, .int .u64 y2, .int .u64 y3, .int .u64 y4, .int .u64 y5, .int .u64 y6, .int .u64 y7], [.int .u64 0, .int .u64 0, .int .u64 0, .int .u64 0]] := (by with_reducible exact T0.step hB); have tltw2 := (T0.b 2 rfl).lt; (try (replace G0 := G0.step hB; have j0c := G0.c 0 rfl; have j0f := G0.f 0 rfl; have j1c := G0.c 1 rfl; have j1f := G0.f 1 rfl; have j2c := G0.c 2 rfl; have j2f := G0.f 2 rfl; have j3c := G0.c 3 rfl; have j3f := G0.f 3 rfl; have j4c := G0.c 4 rfl; have j4f := G0.f 4 rfl; have j5c := G0.c 5 rfl; have j5f := G0.f 5 rfl; have j6c := G0.c 6 rfl; have j6f := G0.f 6 rfl; have j7c := G0.c 7 rfl; have j7f := G0.f 7 rfl; have jlt := G0.lt)); (try (replace G1 := G1.step hB; have k0c := G1.c 0 rfl; have k0f := G1.f 0 rfl; have k1c := G1.c 1 rfl; have k1f := G1.f 1 rfl; have k2c := G1.c 2 rfl; have k2f := G1.f 2 rfl; have k3c := G1.c 3 rfl; have k3f := G1.f 3 rfl; have k4c := G1.c 4 rfl; have k4f := G1.f 4 rfl; have k5c := G1.c 5 rfl; have k5f := G1.f 5 rfl; have k6c := G1.c 6 rfl; have k6f := G1.f 6 rfl; have k7c := G1.c 7 rfl; have k7f := G1.f 7 rfl; have klt := G1.lt))) | (have T1 : ArgsB w w2 [[.int .u64 x0, .int .u64 x1, .int .u64 x2, .int .u64 x3, .int .u64 x4, .int .u64 x5, .int .u64 x6, .int .u64 x7], [.int .u64 y0, .int .u64 y1, .int .u64 y2, .int .u64 y3, .int .u64 y4, .int .u64 y5, .int .u64 y6, .int .u64 y7], [.int .u64 0, .int .u64 0, .int .u64 0, .int .u64 0]] := (by with_reducible exact T0.drew.step hB); have tltw2 := (T0.b 2 rfl).lt; (try (replace G0 := G0.drew.step hB; have j0c := G0.c 0 rfl; have j0f := G0.f 0 rfl; have j1c := G0.c 1 rfl; have j1f := G0.f 1 rfl; have j2c := G0.c 2 rfl; have j2f := G0.f 2 rfl; have j3c := G0.c 3 rfl; have j3f := G0.f 3 rfl; have j4c := G0.c 4 rfl; have j4f := G0.f 4 rfl; have j5c := G0.c 5 rfl; have j5f := G0.f 5 rfl; have j6c := G0.c 6 rfl; have j6f := G0.f 6 rfl; have j7c := G0.c 7 rfl; have j7f := G0.f 7 rfl; have jlt := G0.lt)); (try (replace G1 := G1.drew.step hB; have k0c := G1.c 0 rfl; have k0f := G1.f 0 rfl; have k1c := G1.c 1 rfl; have k1f := G1.f 1 rfl; have k2c := G1.c 2 rfl; have k2f := G1.f 2 rfl; have k3c := G1.c 3 rfl; have k3f := G1.f 3 rfl; have k4c := G1.c 4 rfl; have k4f := G1.f 4 rfl; have k5c := G1.c 5 rfl; have k5f := G1.f 5 rfl; have k6c := G1.c 6 rfl; have k6f := G1.f 6 rfl; have k7c := G1.c 7 rfl; have k7f := G1.f 7 rfl; have klt := G1.lt))) | (have T1 : ArgsB w w2 [[.int .u64 x0, .int .u64 x1, .int .u64 x2, .int .u64 x3, .int .u64 x4, .int .u64 x5, .int .u64 x6, .int .u64 x7], [.int .u64 y0, .int .u64 y1, .int .u64 y2, .int .u64 y3, .int .u64 y4, .int .u64 y5, .int .u64 y6, .int .u64 y7], [.int .u64 0, .int .u64 0, .int .u64 0, .int .u64 0]] := (by with_reducible exact (T0.alloc _).step hB); have tltw2 := (T0.b 2 rfl).lt; (first | (have G1 := (Blk.new _ [.int .u64 0, .int .u64 0, .int .u64 0, .int .u64 0, .int .u64 0, .int .u64 0, .int .u64 0, .int .u64 0] _ rfl).step hB; have hgg := G0.lt; replace G0 := (G0.alloc _).step hB; have j0c := G0.c 0 rfl; have j0f := G0.f 0 rfl; have j1c := G0.c 1 rfl; have j1f := G0.f 1 rfl; have j2c := G0.c 2 rfl; have j2f := G0.f 2 rfl; have j3c := G0.c 3 rfl; have j3f := G0.f 3 rfl; have j4c := G0.c 4 rfl; have j4f := G0.f 4 rfl; have j5c := G0.c 5 rfl; have j5f := G0.f 5 rfl; have j6c := G0.c 6 rfl; have j6f := G0.f 6 rfl; have j7c := G0.c 7 rfl; have j7f := G0.f 7 rfl; have jlt := G0.lt; have k0c := G1.c 0 rfl; have k0f := G1.f 0 rfl; have k1c := G1.c 1 rfl; have k1f := G1.f 1 rfl; have k2c := G1.c 2 rfl; have k2f := G1.f 2 rfl; have k3c := G1.c 3 rfl; have k3f := G1.f 3 rfl; have k4c := G1.c 4 rfl; have k4f := G1.f 4 rfl; have k5c := G1.c 5 rfl; have k5f := G1.f 5 rfl; have k6c := G1.c 6 rfl; have k6f := G1.f 6 rfl; have k7c := G1.c 7 rfl; have k7f := G1.f 7 rfl; have klt := G1.lt) | (have G0 := (Blk.new _ [.int .u64 0, .int .u64 0, .int .u64 0, .int .u64 0, .int .u64 0, .int .u64 0, .int .u64 0, .int .u64 0] _ rfl).step hB; have j0c := G0.c 0 rfl; have j0f := G0.f 0 rfl; have j1c := G0.c 1 rfl; have j1f := G0.f 1 rfl; have j2c := G0.c 2 rfl; have j2f := G0.f 2 rfl; have j3c := G0.c 3 rfl; have j3f := G0.f 3 rfl; have j4c := G0.c 4 rfl; have j4f := G0.f 4 rfl; have j5c := G0.c 5 rfl; have j5f := G0.f 5 rfl; have j6c := G0.c 6 rfl; have j6f := G0.f 6 rfl; have j7c := G0.c 7 rfl; have j7f := G0.f 7 rfl; have jlt := G0.lt))) | (have T1 : ArgsB w w2 [[.int .u64 x0, .int .u64 x1, .int .u64 x2, .int .u64 x3, .int .u64 x4, .int .u64 x5, .int .u64 x6, .int .u64 x7], [.int .u64 y0, .int .u64 y1, .int .u64 y2, .int .u64 y3, .int .u64 y4, .int .u64 y5, .int .u64 y6, .int .u64 y7], [.int .u64 0, .int .u64 0, .int .u64 0, .int .u64 0]] := (by with_reducible exact (T0.alloc _).drew.step hB); have tltw2 := (T0.b 2 rfl).lt; (first | (have G1 := (Blk.new _ [.int .u64 0, .int .u64 0, .int .u64 0, .int .u64 0, .int .u64 0, .int .u64 0, .int .u64 0, .int .u64 0] _ rfl).drew.step hB; have hgg := G0.lt; replace G0 := (G0.alloc _).drew.step hB; have j0c := G0.c 0 rfl; have j0f := G0.f 0 rfl; have j1c := G0.c 1 rfl; have j1f := G0.f 1 rfl; have j2c := G0.c 2 rfl; have j2f := G0.f 2 rfl; have j3c := G0.c 3 rfl; have j3f := G0.f 3 rfl; have j4c := G0.c 4 rfl; have j4f := G0.f 4 rfl; have j5c := G0.c 5 rfl; have j5f := G0.f 5 rfl; have j6c := G0.c 6 rfl; have j6f := G0.f 6 rfl; have j7c := G0.c 7 rfl; have j7f := G0.f 7 rfl; have jlt := G0.lt; have k0c := G1.c 0 rfl; have k0f := G1.f 0 rfl; have k1c := G1.c 1 rfl; have k1f := G1.f 1 rfl; have k2c := G1.c 2 rfl; have k2f := G1.f 2 rfl; have k3c := G1.c 3 rfl; have k3f := G1.f 3 rfl; have k4c := G1.c 4 rfl; have k4f := G1.f 4 rfl; have k5c := G1.c 5 rfl; have k5f := G1.f 5 rfl; have k6c := G1.c 6 rfl; have k6f := G1.f 6 rfl; have k7c := G1.c 7 rfl; have k7f := G1.f 7 rfl; have klt := G1.lt) | (have G0 := (Blk.new _ [.int .u64 0, .int .u64 0, .int .u64 0, .int .u64 0, .int .u64 0, .int .u64 0, .int .u64 0, .int .u64 0] _ rfl).drew.step hB; have j0c := G0.c 0 rfl; have j0f := G0.f 0 rfl; have j1c := G0.c 1 rfl; have j1f := G0.f 1 rfl; have j2c := G0.c 2 rfl; have j2f := G0.f 2 rfl; have j3c := G0.c 3 rfl; have j3f := G0.f 3 rfl; have j4c := G0.c 4 rfl; have j4f := G0.f 4 rfl; have j5c := G0.c 5 rfl; have j5f := G0.f 5 rfl; have j6c := G0.c 6 rfl; have j6f := G0.f 6 rfl; have j7c := G0.c 7 rfl; have j7f := G0.f 7 rfl; have jlt := G0.lt))) | (have T1 : ArgsB w w2 [[.int .u64 x0, .int .u64 x1, .int .u64 x2, .int .u64 x3, .int .u64 x4, .int .u64 x5, .int .u64 x6, .int .u64 x7], [.int .u64 y0, .int .u64 y1, .int .u64 y2, .int .u64 y3, .int .u64 y4, .int .u64 y5, .int .u64 y6, .int .u64 y7], [.int .u64 0, .int .u64 0, .int .u64 0, .int .u64 0]] := (by with_reducible exact ((T0.alloc _).alloc _).step hB); have tltw2 := (T0.b 2 rfl).lt; have G0 := ((Blk.new _ [.int .u64 0, .int .u64 0, .int .u64 0, .int .u64 0, .int .u64 0, .int .u64 0, .int .u64 0, .int .u64 0] _ rfl).alloc _).step hB; have G1 := (Blk.newS _ _ [.int .u64 0, .int .u64 0, .int .u64 0, .int .u64 0, .int .u64 0, .int .u64 0, .int .u64 0, .int .u64 0] _).step hB; have j0c := G0.c 0 rfl; have j0f := G0.f 0 rfl; have j1c := G0.c 1 rfl; have j1f := G0.f 1 rfl; have j2c := G0.c 2 rfl; have j2f := G0.f 2 rfl; have j3c := G0.c 3 rfl; have j3f := G0.f 3 rfl; have j4c := G0.c 4 rfl; have j4f := G0.f 4 rfl; have j5c := G0.c 5 rfl; have j5f := G0.f 5 rfl; have j6c := G0.c 6 rfl; have j6f := G0.f 6 rfl; have j7c := G0.c 7 rfl; have j7f := G0.f 7 rfl; have jlt := G0.lt; have k0c := G1.c 0 rfl; have k0f := G1.f 0 rfl; have k1c := G1.c 1 rfl; have k1f := G1.f 1 rfl; have k2c := G1.c 2 rfl; have k2f := G1.f 2 rfl; have k3c := G1.c 3 rfl; have k3f := G1.f 3 rfl; have k4c := G1.c 4 rfl; have k4f := G1.f 4 rfl; have k5c := G1.c 5 rfl; have k5f := G1.f 5 rfl; have k6c := G1.c 6 rfl; have k6f := G1.f 6 rfl; have k7c := G1.c 7 rfl; have k7f := G1.f 7 rfl; have klt := G1.lt) | (have T1 : ArgsB w w2 [[.int .u64 x0, .int .u64 x1, .int .u64 x2, .int .u64 x3, .int .u64 x4, .int .u64 x5, .int .u64 x6, .int .u64 x7], [.int .u64 y0, .int .u64 y1, .int .u64 y2, .int .u64 y3, .int .u64 y4, .int .u64 y5, .int .u64 y6, .int .u64 y7], [.int .u64 0, .int .u64 0, .int .u64 0, .int .u64 0]] := (by with_reducible exact ((T0.alloc _).alloc _).drew.step hB); have tltw2 := (T0.b 2 rfl).lt; have G0 := ((Blk.new _ [.int .u64 0, .int .u64 0, .int .u64 0, .int .u64 0, .int .u64 0, .int .u64 0, .int .u64 0, .int .u64 0] _ rfl).alloc _).drew.step hB; have G1 := (Blk.newS _ _ [.int .u64 0, .int .u64 0, .int .u64 0, .int .u64 0, .int .u64 0, .int .u64 0, .int .u64 0, .int .u64 0] _).drew.step hB; have j0c := G0.c 0 rfl; have j0f := G0.f 0 rfl; have j1c := G0.c 1 rfl; have j1f := G0.f 1 rfl; have j2c := G0.c 2 rfl; have j2f := G0.f 2 rfl; have j3c := G0.c 3 rfl; have j3f := G0.f 3 rfl; have j4c := G0.c 4 rfl; have j4f := G0.f 4 rfl; have j5c := G0.c 5 rfl; have j5f := G0.f 5 rfl; have j6c := G0.c 6 rfl; have j6f := G0.f 6 rfl; have j7c := G0.c 7 rfl; have j7f := G0.f 7 rfl; have jlt := G0.lt; have k0c := G1.c 0 rfl; have k0f := G1.f 0 rfl; have k1c := G1.c 1 rfl; have k1f := G1.f 1 rfl; have k2c := G1.c 2 rfl; have k2f := G1.f 2 rfl; have k3c := G1.c 3 rfl; have k3f := G1.f 3 rfl; have k4c := G1.c 4 rfl; have k4f := G1.f 4 rfl; have k5c := G1.c 5 rfl; have k5f := G1.f 5 rfl; have k6c := G1.c 6 rfl; have k6f := G1.f 6 rfl; have k7c := G1.c 7 rfl; have k7f := G1.f 7 rfl; have klt := G1.lt)); clear T0; have T0 := T1; clear T1; clear hB))
    all_goals go_wp2_with fail
    all_goals go_meet
    all_goals have hl : w.heap.size + ([[.int .u64 x0, .int .u64 x1, .int .u64 x2, .int .u64 x3, .int .u64 x4, .int .u64 x5, .int .u64 x6, .int .u64 x7], [.int .u64 y0, .int .u64 y1, .int .u64 y2, .int .u64 y3, .int .u64 y4, .int .u64 y5, .int .u64 y6, .int .u64 y7], [.int .u64 0, .int .u64 0, .int .u64 0, .int .u64 0]] : List (List Value)).length ≤ w2.heap.size := (T0.b 2 rfl).lt
    all_goals first | (with_reducible exact cutX_nn T0 hl) | (with_reducible exact cutX_nn' T0 hl) | (with_reducible exact cutX_sn T0 G0 (by simp; omega) hl) | (with_reducible exact cutX_sn' T0 G0 (by simp; omega) hl) | (with_reducible exact cutX_ss T0 G0 G1 (by simp; omega) (by simp; omega) (by omega)) | (with_reducible exact cutX_ss T0 G1 G0 (by simp; omega) (by simp; omega) (by omega))
  case rest =>
    clear T0 SA DV hlw
    obtain ⟨gq, gr, hp, hq, hne, hgq, hgr, T3, GQ, GR⟩ := hcut
    have R0 : Blk _ (w.heap.size + 1 + 1) _ := T3.b 2 rfl
    have T0 := T3.drop3
    have hgq3 : w.heap.size + 3 ≤ gq := hgq
    clear T3 hgq hgr
    subst hp; subst hq
    clear GR
    have hlw := (T0.b 1 rfl).lt
    have hlr := R0.lt
    have hlq := GQ.lt
    go_upto_region 2 with fail
    go_region_held3 (fun w' => w'.cell? ⟨w.heap.size, 0, none⟩ = some (.int .u64 x0) ∧ w'.cell? ⟨w.heap.size, 1, none⟩ = some (.int .u64 x1) ∧ w'.cell? ⟨w.heap.size, 2, none⟩ = some (.int .u64 x2) ∧ w'.cell? ⟨w.heap.size, 3, none⟩ = some (.int .u64 x3) ∧ w'.cell? ⟨w.heap.size, 4, none⟩ = some (.int .u64 x4) ∧ w'.cell? ⟨w.heap.size, 5, none⟩ = some (.int .u64 x5) ∧ w'.cell? ⟨w.heap.size, 6, none⟩ = some (.int .u64 x6) ∧ w'.cell? ⟨w.heap.size, 7, none⟩ = some (.int .u64 x7) ∧ w'.cell? ⟨gq, 0, none⟩ = some (.int .u64 q0) ∧ w'.cell? ⟨gq, 1, none⟩ = some (.int .u64 q1) ∧ w'.cell? ⟨gq, 2, none⟩ = some (.int .u64 q2) ∧ w'.cell? ⟨gq, 3, none⟩ = some (.int .u64 q3) ∧ w'.cell? ⟨gq, 4, none⟩ = some (.int .u64 q4) ∧ w'.cell? ⟨gq, 5, none⟩ = some (.int .u64 q5) ∧ w'.cell? ⟨gq, 6, none⟩ = some (.int .u64 q6) ∧ w'.cell? ⟨gq, 7, none⟩ = some (.int .u64 q7)) ((refine sh_cells2 (y0 := y0) ( y1 := y1) ( y2 := y2) ( y3 := y3) ( y4 := y4) ( y5 := y5) ( y6 := y6) ( y7 := y7) ?_ ?_ <;> repeat (first | (with_reducible exact T0) | (with_reducible exact GQ) | (with_reducible refine ArgsB.drew ?_) | (with_reducible refine Blk.drew ?_) | (with_reducible refine ArgsB.set4g ?_ (by simp <;> omega) _ _ _ _) | (with_reducible refine Blk.set4 ?_ (by omega)))))
      (first
        | (go_at_call 84; refine (NA _).mono ?_; rintro e w3 ⟨rfl, hB⟩; (first | (have T1 : ArgsB w w3 [[.int .u64 x0, .int .u64 x1, .int .u64 x2, .int .u64 x3, .int .u64 x4, .int .u64 x5, .int .u64 x6, .int .u64 x7], [.int .u64 y0, .int .u64 y1, .int .u64 y2, .int .u64 y3, .int .u64 y4, .int .u64 y5, .int .u64 y6, .int .u64 y7]] := (by with_reducible exact T0.step hB); have tltw3 := (T0.b 1 rfl).lt; have lR0w3 := R0.lt; replace R0 := R0.step hB; have lGQw3 := GQ.lt; replace GQ := GQ.step hB; skip) | (have T1 : ArgsB w w3 [[.int .u64 x0, .int .u64 x1, .int .u64 x2, .int .u64 x3, .int .u64 x4, .int .u64 x5, .int .u64 x6, .int .u64 x7], [.int .u64 y0, .int .u64 y1, .int .u64 y2, .int .u64 y3, .int .u64 y4, .int .u64 y5, .int .u64 y6, .int .u64 y7]] := (by with_reducible exact T0.drew.step hB); have tltw3 := (T0.b 1 rfl).lt; have lR0w3 := R0.lt; replace R0 := R0.drew.step hB; have lGQw3 := GQ.lt; replace GQ := GQ.drew.step hB; skip)); clear T0; have T0 := T1; clear T1; clear hB)
        | (go_at_call 80; refine (SG _).mono ?_; rintro e w4 ⟨n0, n1, n2, n3, n4, n5, n6, n7, rfl, wn, nv, hB⟩; (first | (have T1 : ArgsB w w4 [[.int .u64 x0, .int .u64 x1, .int .u64 x2, .int .u64 x3, .int .u64 x4, .int .u64 x5, .int .u64 x6, .int .u64 x7], [.int .u64 y0, .int .u64 y1, .int .u64 y2, .int .u64 y3, .int .u64 y4, .int .u64 y5, .int .u64 y6, .int .u64 y7]] := (by with_reducible exact T0.step hB); have tltw4 := (T0.b 1 rfl).lt; have lR0w4 := R0.lt; replace R0 := R0.step hB; have lGQw4 := GQ.lt; replace GQ := GQ.step hB; skip) | (have T1 : ArgsB w w4 [[.int .u64 x0, .int .u64 x1, .int .u64 x2, .int .u64 x3, .int .u64 x4, .int .u64 x5, .int .u64 x6, .int .u64 x7], [.int .u64 y0, .int .u64 y1, .int .u64 y2, .int .u64 y3, .int .u64 y4, .int .u64 y5, .int .u64 y6, .int .u64 y7]] := (by with_reducible exact T0.drew.step hB); have tltw4 := (T0.b 1 rfl).lt; have lR0w4 := R0.lt; replace R0 := R0.drew.step hB; have lGQw4 := GQ.lt; replace GQ := GQ.drew.step hB; skip)); clear T0; have T0 := T1; clear T1; clear hB)
        | (go_at_call 46; refine (tellWide_det n0 n1 n2 n3 n4 n5 n6 n7 wn _ (nv.trans HZ.out) _).mono ?_; rw [HT]; rintro e w5 ⟨rfl, hB⟩; (first | (have T1 : ArgsB w w5 [[.int .u64 x0, .int .u64 x1, .int .u64 x2, .int .u64 x3, .int .u64 x4, .int .u64 x5, .int .u64 x6, .int .u64 x7], [.int .u64 y0, .int .u64 y1, .int .u64 y2, .int .u64 y3, .int .u64 y4, .int .u64 y5, .int .u64 y6, .int .u64 y7]] := (by with_reducible exact T0.step hB); have tltw5 := (T0.b 1 rfl).lt; have lR0w5 := R0.lt; replace R0 := R0.step hB; have lGQw5 := GQ.lt; replace GQ := GQ.step hB; skip) | (have T1 : ArgsB w w5 [[.int .u64 x0, .int .u64 x1, .int .u64 x2, .int .u64 x3, .int .u64 x4, .int .u64 x5, .int .u64 x6, .int .u64 x7], [.int .u64 y0, .int .u64 y1, .int .u64 y2, .int .u64 y3, .int .u64 y4, .int .u64 y5, .int .u64 y6, .int .u64 y7]] := (by with_reducible exact T0.drew.step hB); have tltw5 := (T0.b 1 rfl).lt; have lR0w5 := R0.lt; replace R0 := R0.drew.step hB; have lGQw5 := GQ.lt; replace GQ := GQ.drew.step hB; skip)); clear T0; have T0 := T1; clear T1; have o0c := R0.c 0 rfl; have o0f := R0.f 0 rfl; have o1c := R0.c 1 rfl; have o1f := R0.f 1 rfl; have o2c := R0.c 2 rfl; have o2f := R0.f 2 rfl; have o3c := R0.c 3 rfl; have o3f := R0.f 3 rfl; have olt := R0.lt; clear hB))
    all_goals have HB := T0.below
    all_goals clear T0 GQ
    all_goals go_wp2
    all_goals refine bodyPost_ret (v := .tuple #[.agg #[.int .u64 c3, .int .u64 c2, .int .u64 c1, .int .u64 c0], .bool t]) (by simp [results, Try.results49, go_sem, o0c, o1c, o2c, o3c]) rfl ?_
    all_goals refine ⟨by rw [HV.out], ?_⟩
    all_goals (try (with_reducible refine Below.drew ?_))
    all_goals repeat' (refine Below.setCell ?_ (by simp; try omega) _)
    all_goals exact HB
end Go.Proofs.Ytgmenloipiedeaa

/- The walk of the model's quotient and rest of numbers with signs. -/
namespace Go.Proofs.Ytgmenloipiedeaa
open Go.RowKit
def Div2P (k : Nat) (x y : Int) (w : World) (e : Ending) (w' : World) : Prop :=
  ∃ (s2 : Bool) (o2 : Option Addr) (n2 c2 : Nat) (d2 : List Int) (s3 : Bool) (o3 : Option Addr) (n3 c3 : Nat) (d3 : List Int), e = .returned (.tuple #[.agg #[.bool s2, .slice o2 n2 c2], .agg #[.bool s3, .slice o3 n3 c3]]) ∧ IsNum w' s2 o2 n2 c2 d2 (x / y) (k + 3) ∧ IsNum w' s3 o3 n3 c3 d3 (x % y) (k + 3) ∧ Below w.heap.size w w'
theorem num_put {w : World} {s : Bool} {ao : Option Addr} {n cap : Nat} {ds : List Int} {z : Int} {k R : Nat} {p : Bool} {q : Option Addr} {q1 q2 : Nat} (h : IsNum w s ao n cap ds z k) (B : Blk w R [.bool p, .slice q q1 q2]) (u0 u1 : Value) : IsNum ((w.setCell ⟨R, 0, none⟩ u0).setCell ⟨R, 1, none⟩ u1) s ao n cap ds z k := by
  have h1 := h.rd.set u0 (B.c 0 rfl) (by intro x e; cases e)
  have B1 := B.setI 0 (by simp) u0
  have h2 := h1.set u1 (B1.c 1 rfl) (by intro x e; cases e)
  exact ⟨h.neg, h.len, h.cap, h2, h.nrm, h.val, h.le⟩
theorem num_more {w : World} {s : Bool} {ao : Option Addr} {n cap : Nat} {ds : List Int} {z : Int} {k k' : Nat} (h : IsNum w s ao n cap ds z k) (hk : k ≤ k') : IsNum w s ao n cap ds z k' := ⟨h.neg, h.len, h.cap, h.rd, h.nrm, h.val, Nat.le_trans h.le hk⟩
theorem num_drawn {w : World} {s : Bool} {ao : Option Addr} {n cap : Nat} {ds : List Int} {z : Int} {k : Nat} (h : IsNum w s ao n cap ds z k) : IsNum w.drew s ao n cap ds z k := ⟨h.neg, h.len, h.cap, h.rd, h.nrm, h.val, h.le⟩
theorem div_done {w W : World} {s2 s3 : Bool} {o2 o3 : Option Addr} {n2 c2 n3 c3 : Nat} {d2 d3 : List Int} {x y : Int} {k : Nat} (HB : Below w.heap.size w W) (NU : IsNum W s2 o2 n2 c2 d2 (x / y) (k + 3)) (NV : IsNum W s3 o3 n3 c3 d3 (x % y) (k + 3)) (C : Blk W (w.heap.size + 1 + 1) [.bool false, .slice none 0 0]) (D : Blk W (w.heap.size + 1 + 1 + 1) [.bool false, .slice none 0 0]) :
    Div2P k x y w (.returned (.tuple #[.agg #[.bool s2, .slice o2 n2 c2], .agg #[.bool s3, .slice o3 n3 c3]])) ((((W.setCell ⟨w.heap.size + 1 + 1, 0, none⟩ (.bool s2)).setCell ⟨w.heap.size + 1 + 1, 1, none⟩ (.slice o2 n2 c2)).setCell ⟨w.heap.size + 1 + 1 + 1, 0, none⟩ (.bool s3)).setCell ⟨w.heap.size + 1 + 1 + 1, 1, none⟩ (.slice o3 n3 c3)) := by
  have D' := (D.setO (p := ⟨w.heap.size + 1 + 1, 0, none⟩) (by simp) (.bool s2)).setO (p := ⟨w.heap.size + 1 + 1, 1, none⟩) (by simp) (.slice o2 n2 c2)
  refine ⟨s2, o2, n2, c2, d2, s3, o3, n3, c3, d3, rfl, num_put (num_put NU C _ _) D' _ _, num_put (num_put NV C _ _) D' _ _, ?_⟩
  exact (((HB.setCell (p := ⟨w.heap.size + 1 + 1, 0, none⟩) (by simp; omega) _).setCell (p := ⟨w.heap.size + 1 + 1, 1, none⟩) (by simp; omega) _).setCell (p := ⟨w.heap.size + 1 + 1 + 1, 0, none⟩) (by simp; omega) _).setCell (p := ⟨w.heap.size + 1 + 1 + 1, 1, none⟩) (by simp; omega) _
theorem div_drawn {w W : World} {k : Nat} {x y : Int} {e : Ending} (h : Div2P k x y w e W) : Div2P k x y w e W.drew := by
  obtain ⟨s2, o2, n2, c2, d2, s3, o3, n3, c3, d3, e, h1, h2, hB⟩ := h
  exact ⟨s2, o2, n2, c2, d2, s3, o3, n3, c3, d3, e, num_drawn h1, num_drawn h2, hB.drew⟩
theorem div_alloc {w W : World} {k : Nat} {x y : Int} {e : Ending} (h : Div2P k x y w e W) (o : Obj) : Div2P k x y w e (W.alloc o) := by
  obtain ⟨s2, o2, n2, c2, d2, s3, o3, n3, c3, d3, e, h1, h2, hB⟩ := h
  exact ⟨s2, o2, n2, c2, d2, s3, o3, n3, c3, d3, e, h1.below ((Below.refl _ _).alloc (Nat.le_refl _) o), h2.below ((Below.refl _ _).alloc (Nat.le_refl _) o), hB.alloc hB.size o⟩
set_option maxRecDepth 100000 in
set_option maxHeartbeats 4000000 in
theorem div_any (s t : Bool) (ao bo : Option Addr) (n m ca cb k : Nat) (xs ys : List Int) (x y : Int) (w : World) (hx : IsNum w s ao n ca xs x k) (hy : IsNum w t bo m cb ys y k) (hk : k ≤ 9000) (hy0 : y ≠ 0) :
    Calls Try.prog 71 #[.agg #[.bool s, .slice ao n ca], .agg #[.bool t, .slice bo m cb]] w (Div2P k x y w) := by
  obtain ⟨Q, R, eQ, eR, hQ0, hR0, hR1, hqr⟩ := div_parts x y hy0
  have DS := div_signs hy0 hR0 hR1 hqr
  have hs : Hid (s = decide (x < 0)) := hx.neg
  have ht : Hid (t = decide (y < 0)) := hy.neg
  have A := (((Blk.new w [.bool s, .slice ao n ca] 56 rfl).alloc (.cells #[.bool t, .slice bo m cb] 56)).alloc (.cells #[.bool false, .slice none 0 0] 56)).alloc (.cells #[.bool false, .slice none 0 0] 56)
  have B := ((Blk.new (w.alloc (.cells #[.bool s, .slice ao n ca] 56)) [.bool t, .slice bo m cb] 56 (g := w.heap.size + 1) (by simp)).alloc (.cells #[.bool false, .slice none 0 0] 56)).alloc (.cells #[.bool false, .slice none 0 0] 56)
  have C := (Blk.new ((w.alloc (.cells #[.bool s, .slice ao n ca] 56)).alloc (.cells #[.bool t, .slice bo m cb] 56)) [.bool false, .slice none 0 0] 56 (g := w.heap.size + 1 + 1) (by simp)).alloc (.cells #[.bool false, .slice none 0 0] 56)
  have D := Blk.new (((w.alloc (.cells #[.bool s, .slice ao n ca] 56)).alloc (.cells #[.bool t, .slice bo m cb] 56)).alloc (.cells #[.bool false, .slice none 0 0] 56)) [.bool false, .slice none 0 0] 56 (g := w.heap.size + 1 + 1 + 1) (by simp)
  have HB0 : Below w.heap.size w ((((w.alloc (.cells #[.bool s, .slice ao n ca] 56)).alloc (.cells #[.bool t, .slice bo m cb] 56)).alloc (.cells #[.bool false, .slice none 0 0] 56)).alloc (.cells #[.bool false, .slice none 0 0] 56)) := ((((Below.refl _ _).alloc (Nat.le_refl _) _).alloc (by simp) _).alloc (by simp; omega) _).alloc (by simp; omega) _
  replace hx := hx.below HB0
  replace hy := hy.below HB0
  have hyp : 0 < val ys := by rw [hy.val]; omega
  go_enter Try.func71, Try.ntmps71
  go_wp2_with fail
  refine (divAbs_any ao bo n m ca cb xs ys _ hx.len hy.len hx.nrm hy.nrm hx.rd hy.rd hx.cap (by have := hx.le; omega) (by have := hy.le; omega) hyp).mono ?_
  rintro e w1 ⟨qo, qn, qc, qs, ro, rn, rc, rs, rfl, ⟨a1, a2, a3, a4, a5, a6⟩, ⟨b1, b2, b3, b4, b5, b6⟩, hB⟩
  rw [hx.val, hy.val] at a5 b5
  rw [eQ] at a5
  rw [eR] at b5
  have hnk := hx.le
  replace hy := hy.below hB
  replace A := A.step hB; replace B := B.step hB; replace C := C.step hB; replace D := D.step hB
  have HB1 : Below w.heap.size w w1 := HB0.trans (hB.mono HB0.size)
  clear hB HB0 hx hyp
  have p0 := A.c 0 rfl; have p1 := A.c 1 rfl; have pl := A.lt; have q0 := B.c 0 rfl; have q1 := B.c 1 rfl; have ql := B.lt
  go_wp2_with fail
  refine (trim_any _ qo qn qc qs _ a1 a2 a4.1 a6 (by omega)).mono ?_
  rintro e w2 ⟨s2, o2, n2, c2, d2, rfl, t1, t2, t3, t4, t5, t6, t7, hB⟩
  have NU : IsNum w2 s2 o2 n2 c2 d2 (if s = t then Q else -Q) (k + 1) := num_of t1 t2 (by omega) t4 (t5.trans a5) (by rw [t6, a5]) t7 (by split <;> omega) (by intro hz; cases s <;> cases t <;> simp at hz ⊢ <;> omega)
  replace b6 := b6.below hB (Nat.le_refl _)
  replace hy := hy.below hB
  replace A := A.step hB; replace B := B.step hB; replace C := C.step hB; replace D := D.step hB
  have HB2 : Below w.heap.size w w2 := HB1.trans (hB.mono HB1.size)
  clear hB HB1 t1 t2 t3 t4 t5 t6 t7 a1 a2 a3 a4 a5 a6 p0 p1 pl q0 q1 ql
  have p0 := A.c 0 rfl; have p1 := A.c 1 rfl; have pl := A.lt; have q0 := B.c 0 rfl; have q1 := B.c 1 rfl; have ql := B.lt
  have hDU := D.lt
  have U := Blk.new w2 [.bool s2, .slice o2 n2 c2] 56 rfl
  have hal : Below w2.heap.size w2 (w2.alloc (.cells #[.bool s2, .slice o2 n2 c2] 56)) := (Below.refl _ _).alloc (Nat.le_refl _) _
  replace A := A.step hal; replace B := B.step hal; replace C := C.step hal; replace D := D.step hal
  replace NU := NU.below hal
  replace hy := hy.below hal
  replace b6 := b6.below hal (Nat.le_refl _)
  replace HB2 := HB2.alloc HB2.size (.cells #[.bool s2, .slice o2 n2 c2] 56)
  clear hal
  go_wp2_with fail
  refine (trim_any s ro rn rc rs _ b1 b2 b4.1 b6 (by omega)).mono ?_
  rintro e w3 ⟨s3, o3, n3, c3, d3, rfl, t1, t2, t3, t4, t5, t6, t7, hB⟩
  have NV : IsNum w3 s3 o3 n3 c3 d3 (if s then -R else R) (k + 1) := num_of t1 t2 (by omega) t4 (t5.trans b5) (by rw [t6, b5]) t7 (by split <;> omega) (by intro hz; cases s <;> simp at hz ⊢ <;> omega)
  replace hy := hy.below hB
  replace NU := NU.below hB
  replace A := A.step hB; replace B := B.step hB; replace C := C.step hB; replace D := D.step hB; replace U := U.step hB
  have HB3 : Below w.heap.size w w3 := HB2.trans (hB.mono HB2.size)
  have hUl := U.lt; have hBl := B.lt; have hCl := C.lt; have hDl := D.lt
  have nBU : w.heap.size + 1 + 1 + 1 < w2.heap.size := hDU
  clear hB HB2 t1 t2 t3 t4 t5 t6 t7 b1 b2 b3 b4 b5 b6 p0 p1 pl q0 q1 ql
  have q0 := B.c 0 rfl; have q1 := B.c 1 rfl; have ql := B.lt; have u0 := U.c 0 rfl; have uf0 := U.f 0 rfl; have u1 := U.c 1 rfl; have uf1 := U.f 1 rfl; have ul := U.lt; have c0 := C.c 0 rfl; have cf0 := C.f 0 rfl; have c1 := C.c 1 rfl; have cf1 := C.f 1 rfl; have cl := C.lt; have d0 := D.c 0 rfl; have df0 := D.f 0 rfl; have d1 := D.c 1 rfl; have df1 := D.f 1 rfl; have dl := D.lt
  have NU3 := NU; have NV3 := NV; have C3 := C; have D3 := D; have HB3' := HB3
  have V := Blk.new w3 [.bool s3, .slice o3 n3 c3] 56 rfl
  have hal : Below w3.heap.size w3 (w3.alloc (.cells #[.bool s3, .slice o3 n3 c3] 56)) := (Below.refl _ _).alloc (Nat.le_refl _) _
  replace B := B.step hal; replace C := C.step hal; replace D := D.step hal; replace U := U.step hal
  replace NU := NU.below hal
  replace NV := NV.below hal
  replace hy := hy.below hal
  have HB4 := HB3.alloc HB3.size (.cells #[.bool s3, .slice o3 n3 c3] 56)
  have nUV : w2.heap.size < w3.heap.size := hUl
  clear hal HB3
  have hneg := NV.neg
  by_cases hv : s3 = true
  · subst hv
    have es : s = true := by
      apply Decidable.byContradiction
      intro h
      rw [Bool.eq_false_iff.2 h] at hneg
      simp at hneg
      omega
    have hRp : 0 < R := by rw [es] at hneg; simp at hneg; exact hneg
    have hx0 : x < 0 := by have := hs.out; rw [es] at this; simpa using this.symm
    subst es
    obtain ⟨-, -, -, -, D5, D6⟩ := DS
    have J : ∀ W, Below (w3.alloc (.cells #[.bool true, .slice o3 n3 c3] 56)).heap.size (w3.alloc (.cells #[.bool true, .slice o3 n3 c3] 56)) W → (Blk W (w.heap.size + 1) [.bool t, .slice bo m cb] ∧ Blk W (w.heap.size + 1 + 1) [.bool false, .slice none 0 0] ∧ Blk W (w.heap.size + 1 + 1 + 1) [.bool false, .slice none 0 0] ∧ Blk W w2.heap.size [.bool s2, .slice o2 n2 c2] ∧ Blk W w3.heap.size [.bool true, .slice o3 n3 c3]) ∧ IsNum W s2 o2 n2 c2 d2 (if true = t then Q else -Q) (k + 1) ∧ IsNum W true o3 n3 c3 d3 (-R) (k + 1) ∧ IsNum W t bo m cb ys y k ∧ Below w.heap.size w W :=
      fun W h => ⟨⟨B.step h, C.step h, D.step h, U.step h, V.step h⟩, NU.below h, by simpa using NV.below h, hy.below h, HB4.trans (h.mono HB4.size)⟩
    clear NU NV NU3 NV3 C3 D3 HB3' A B C D U V HB4 hy hneg hs
    cases t
    · have hyp : 0 < y := by have := ht.out; simp at this; omega
      go_upto_region 8 with fail
      generalize w3.alloc (.cells #[.bool true, .slice o3 n3 c3] 56) = W0 at *
      obtain ⟨⟨jb, jc, jd, ju, jv⟩, jn, jr, jy, jB⟩ := J W0 (Below.refl _ _)
      clear u0 u1 uf0 uf1 ul q0 q1 ql c0 c1 cf0 cf1 cl d0 d1 df0 df1 dl
      have u0 := ju.c 0 rfl; have uf0 := ju.f 0 rfl; have u1 := ju.c 1 rfl; have uf1 := ju.f 1 rfl; have ul := ju.lt
      go_region_with ((first
        | (go_at_call 35; refine (int_any 1 _ (by decide) (by decide)).mono ?_; rintro e w5 ⟨s5, o5, n5, c5, d5, rfl, N5, hB⟩; have K5 : Below W0.heap.size W0 w5 := ((Below.refl _ _).drew).trans hB; obtain ⟨⟨ib, ic, id', iu, iv⟩, jn5, ir, iy, iB⟩ := J w5 K5; have h0 := iu.c 0 rfl; have hf0 := iu.f 0 rfl; have h1 := iu.c 1 rfl; have hf1 := iu.f 1 rfl; have hl := iu.lt; clear hB)
        | (go_at_call 67; refine (sub_any s2 s5 o2 o5 n2 n5 c2 c5 (k + 2) d2 d5 _ _ _ (num_more jn5 (by omega)) (num_more N5 (by omega)) (by omega)).mono ?_; rintro e w6 ⟨s6, o6, n6, c6, d6, rfl, N6, hB⟩; have K6 : Below W0.heap.size W0 w6 := K5.trans (hB.mono K5.size); obtain ⟨⟨lb, lc, ld, lu, lv⟩, ln, lr, ly, lB⟩ := J w6 K6; have i0 := lu.c 0 rfl; have if0 := lu.f 0 rfl; have i1 := lu.c 1 rfl; have if1 := lu.f 1 rfl; have il := lu.lt; clear hB)))
      all_goals have g1 : w.heap.size + 1 ≠ w2.heap.size := by omega
      all_goals have g2 : w.heap.size + 1 + 1 ≠ w2.heap.size := by omega
      all_goals have g3 : w.heap.size + 1 + 1 + 1 ≠ w2.heap.size := by omega
      all_goals have g4 : w3.heap.size ≠ w2.heap.size := by omega
      all_goals have B6 := ((lb.setO (p := ⟨w2.heap.size, 0, none⟩) (by exact g1) (.bool s6)).setO (p := ⟨w2.heap.size, 1, none⟩) (by exact g1) (.slice o6 n6 c6))
      all_goals have C6 := ((lc.setO (p := ⟨w2.heap.size, 0, none⟩) (by exact g2) (.bool s6)).setO (p := ⟨w2.heap.size, 1, none⟩) (by exact g2) (.slice o6 n6 c6))
      all_goals have D6' := ((ld.setO (p := ⟨w2.heap.size, 0, none⟩) (by exact g3) (.bool s6)).setO (p := ⟨w2.heap.size, 1, none⟩) (by exact g3) (.slice o6 n6 c6))
      all_goals have V6 := ((lv.setO (p := ⟨w2.heap.size, 0, none⟩) (by exact g4) (.bool s6)).setO (p := ⟨w2.heap.size, 1, none⟩) (by exact g4) (.slice o6 n6 c6))
      all_goals have M6 := num_put N6 lu (.bool s6) (.slice o6 n6 c6)
      all_goals have R6 := num_put lr lu (.bool s6) (.slice o6 n6 c6)
      all_goals have Y6 := num_put ly lu (.bool s6) (.slice o6 n6 c6)
      all_goals have U6 := (lu.setI 0 (by simp) (.bool s6)).setI 1 (by simp) (.slice o6 n6 c6)
      all_goals have L6 := (lB.setCell (p := ⟨w2.heap.size, 0, none⟩) (by simp; omega) (.bool s6)).setCell (p := ⟨w2.heap.size, 1, none⟩) (by simp; omega) (.slice o6 n6 c6)
      all_goals clear u0 u1 uf0 uf1 ul h0 h1 hf0 hf1 hl i0 i1 if0 if1 il jb jc jd ju jv jn jr jy jB ib ic id' iu iv jn5 ir iy iB lb lc ld lu lv ln lr ly lB N5 N6 K5 K6 J
      all_goals generalize ((w6.setCell ⟨w2.heap.size, 0, none⟩ (.bool s6)).setCell ⟨w2.heap.size, 1, none⟩ (.slice o6 n6 c6)) = W6 at *
      all_goals (have v0 := V6.c 0 rfl; have v1 := V6.c 1 rfl; have vl := V6.lt; have x0 := B6.c 0 rfl; have x1 := B6.c 1 rfl; have xl := B6.lt)
      all_goals go_wp2_with fail
      all_goals refine (add_any true false o3 bo n3 m c3 cb (k + 1) d3 ys _ _ _ R6 (num_more Y6 (by omega)) (by omega)).mono ?_
      all_goals rintro e w7 ⟨s7, o7, n7, c7, d7, rfl, N7, hB⟩
      all_goals (replace C6 := C6.step hB; replace D6' := D6'.step hB; replace V6 := V6.step hB; replace U6 := U6.step hB; replace M6 := M6.below hB; replace L6 := L6.trans (hB.mono L6.size))
      all_goals clear hB v0 v1 vl x0 x1 xl
      all_goals have g5 : w.heap.size + 1 + 1 ≠ w3.heap.size := by omega
      all_goals have g6 : w.heap.size + 1 + 1 + 1 ≠ w3.heap.size := by omega
      all_goals have g7 : w2.heap.size ≠ w3.heap.size := by omega
      all_goals (have v0 := V6.c 0 rfl; have vf0 := V6.f 0 rfl; have v1 := V6.c 1 rfl; have vf1 := V6.f 1 rfl; have vl := V6.lt)
      all_goals have C7 := ((C6.setO (p := ⟨w3.heap.size, 0, none⟩) (by exact g5) (.bool s7)).setO (p := ⟨w3.heap.size, 1, none⟩) (by exact g5) (.slice o7 n7 c7))
      all_goals have D7 := ((D6'.setO (p := ⟨w3.heap.size, 0, none⟩) (by exact g6) (.bool s7)).setO (p := ⟨w3.heap.size, 1, none⟩) (by exact g6) (.slice o7 n7 c7))
      all_goals have U7 := ((U6.setO (p := ⟨w3.heap.size, 0, none⟩) (by exact g7) (.bool s7)).setO (p := ⟨w3.heap.size, 1, none⟩) (by exact g7) (.slice o7 n7 c7))
      all_goals have M7 := num_put M6 V6 (.bool s7) (.slice o7 n7 c7)
      all_goals have P7 := num_put N7 V6 (.bool s7) (.slice o7 n7 c7)
      all_goals have L7 := (L6.setCell (p := ⟨w3.heap.size, 0, none⟩) (by simp; omega) (.bool s7)).setCell (p := ⟨w3.heap.size, 1, none⟩) (by simp; omega) (.slice o7 n7 c7)
      all_goals obtain ⟨E1, E2⟩ := D5 hx0 hRp hyp
      all_goals rw [show (if true = false then Q else -Q) - 1 = x / y by rw [E1]; simp] at M7
      all_goals rw [show -R + y = x % y by rw [E2]] at P7
      all_goals have F := div_done (k := k) L7 M7 (num_more P7 (Nat.le_succ _)) C7 D7
      all_goals (have c0 := C7.c 0 rfl; have cf0 := C7.f 0 rfl; have c1 := C7.c 1 rfl; have cf1 := C7.f 1 rfl; have cl := C7.lt; have d0 := D7.c 0 rfl; have df0 := D7.f 0 rfl; have d1 := D7.c 1 rfl; have df1 := D7.f 1 rfl; have dl := D7.lt; have u0 := U7.c 0 rfl; have u1 := U7.c 1 rfl; have ul := U7.lt)
      all_goals clear C6 D6' V6 U6 M6 L6 C7 D7 U7 M7 P7 L7 N7 g1 g2 g3 g4 g5 g6 g7
      all_goals go_wp2
      all_goals go_region
      all_goals go_wp2
      all_goals refine bodyPost_ret (v := .tuple #[.agg #[.bool s6, .slice o6 n6 c6], .agg #[.bool s7, .slice o7 n7 c7]]) (by simp [results, Try.results71, go_sem, c0, c1, d0, d1]) rfl ?_
      all_goals exact div_drawn F
    · have hyp : y < 0 := by have := ht.out; simpa using this.symm
      go_upto_region 6 with fail
      generalize w3.alloc (.cells #[.bool true, .slice o3 n3 c3] 56) = W0 at *
      obtain ⟨⟨jb, jc, jd, ju, jv⟩, jn, jr, jy, jB⟩ := J W0 (Below.refl _ _)
      clear u0 u1 uf0 uf1 ul q0 q1 ql c0 c1 cf0 cf1 cl d0 d1 df0 df1 dl
      have u0 := ju.c 0 rfl; have uf0 := ju.f 0 rfl; have u1 := ju.c 1 rfl; have uf1 := ju.f 1 rfl; have ul := ju.lt
      go_region_with ((first
        | (go_at_call 35; refine (int_any 1 _ (by decide) (by decide)).mono ?_; rintro e w5 ⟨s5, o5, n5, c5, d5, rfl, N5, hB⟩; have K5 : Below W0.heap.size W0 w5 := ((Below.refl _ _).drew).trans hB; obtain ⟨⟨ib, ic, id', iu, iv⟩, jn5, ir, iy, iB⟩ := J w5 K5; have h0 := iu.c 0 rfl; have hf0 := iu.f 0 rfl; have h1 := iu.c 1 rfl; have hf1 := iu.f 1 rfl; have hl := iu.lt; clear hB)
        | (go_at_call 33; refine (add_any s2 s5 o2 o5 n2 n5 c2 c5 (k + 2) d2 d5 _ _ _ (num_more jn5 (by omega)) (num_more N5 (by omega)) (by omega)).mono ?_; rintro e w6 ⟨s6, o6, n6, c6, d6, rfl, N6, hB⟩; have K6 : Below W0.heap.size W0 w6 := K5.trans (hB.mono K5.size); obtain ⟨⟨lb, lc, ld, lu, lv⟩, ln, lr, ly, lB⟩ := J w6 K6; have i0 := lu.c 0 rfl; have if0 := lu.f 0 rfl; have i1 := lu.c 1 rfl; have if1 := lu.f 1 rfl; have il := lu.lt; clear hB)))
      all_goals have g1 : w.heap.size + 1 ≠ w2.heap.size := by omega
      all_goals have g2 : w.heap.size + 1 + 1 ≠ w2.heap.size := by omega
      all_goals have g3 : w.heap.size + 1 + 1 + 1 ≠ w2.heap.size := by omega
      all_goals have g4 : w3.heap.size ≠ w2.heap.size := by omega
      all_goals have B6 := ((lb.setO (p := ⟨w2.heap.size, 0, none⟩) (by exact g1) (.bool s6)).setO (p := ⟨w2.heap.size, 1, none⟩) (by exact g1) (.slice o6 n6 c6))
      all_goals have C6 := ((lc.setO (p := ⟨w2.heap.size, 0, none⟩) (by exact g2) (.bool s6)).setO (p := ⟨w2.heap.size, 1, none⟩) (by exact g2) (.slice o6 n6 c6))
      all_goals have D6' := ((ld.setO (p := ⟨w2.heap.size, 0, none⟩) (by exact g3) (.bool s6)).setO (p := ⟨w2.heap.size, 1, none⟩) (by exact g3) (.slice o6 n6 c6))
      all_goals have V6 := ((lv.setO (p := ⟨w2.heap.size, 0, none⟩) (by exact g4) (.bool s6)).setO (p := ⟨w2.heap.size, 1, none⟩) (by exact g4) (.slice o6 n6 c6))
      all_goals have M6 := num_put N6 lu (.bool s6) (.slice o6 n6 c6)
      all_goals have R6 := num_put lr lu (.bool s6) (.slice o6 n6 c6)
      all_goals have Y6 := num_put ly lu (.bool s6) (.slice o6 n6 c6)
      all_goals have U6 := (lu.setI 0 (by simp) (.bool s6)).setI 1 (by simp) (.slice o6 n6 c6)
      all_goals have L6 := (lB.setCell (p := ⟨w2.heap.size, 0, none⟩) (by simp; omega) (.bool s6)).setCell (p := ⟨w2.heap.size, 1, none⟩) (by simp; omega) (.slice o6 n6 c6)
      all_goals clear u0 u1 uf0 uf1 ul h0 h1 hf0 hf1 hl i0 i1 if0 if1 il jb jc jd ju jv jn jr jy jB ib ic id' iu iv jn5 ir iy iB lb lc ld lu lv ln lr ly lB N5 N6 K5 K6 J
      all_goals generalize ((w6.setCell ⟨w2.heap.size, 0, none⟩ (.bool s6)).setCell ⟨w2.heap.size, 1, none⟩ (.slice o6 n6 c6)) = W6 at *
      all_goals (have v0 := V6.c 0 rfl; have v1 := V6.c 1 rfl; have vl := V6.lt; have x0 := B6.c 0 rfl; have x1 := B6.c 1 rfl; have xl := B6.lt)
      all_goals go_wp2_with fail
      all_goals refine (sub_any true true o3 bo n3 m c3 cb (k + 1) d3 ys _ _ _ R6 (num_more Y6 (by omega)) (by omega)).mono ?_
      all_goals rintro e w7 ⟨s7, o7, n7, c7, d7, rfl, N7, hB⟩
      all_goals (replace C6 := C6.step hB; replace D6' := D6'.step hB; replace V6 := V6.step hB; replace U6 := U6.step hB; replace M6 := M6.below hB; replace L6 := L6.trans (hB.mono L6.size))
      all_goals clear hB v0 v1 vl x0 x1 xl
      all_goals have g5 : w.heap.size + 1 + 1 ≠ w3.heap.size := by omega
      all_goals have g6 : w.heap.size + 1 + 1 + 1 ≠ w3.heap.size := by omega
      all_goals have g7 : w2.heap.size ≠ w3.heap.size := by omega
      all_goals (have v0 := V6.c 0 rfl; have vf0 := V6.f 0 rfl; have v1 := V6.c 1 rfl; have vf1 := V6.f 1 rfl; have vl := V6.lt)
      all_goals have C7 := ((C6.setO (p := ⟨w3.heap.size, 0, none⟩) (by exact g5) (.bool s7)).setO (p := ⟨w3.heap.size, 1, none⟩) (by exact g5) (.slice o7 n7 c7))
      all_goals have D7 := ((D6'.setO (p := ⟨w3.heap.size, 0, none⟩) (by exact g6) (.bool s7)).setO (p := ⟨w3.heap.size, 1, none⟩) (by exact g6) (.slice o7 n7 c7))
      all_goals have U7 := ((U6.setO (p := ⟨w3.heap.size, 0, none⟩) (by exact g7) (.bool s7)).setO (p := ⟨w3.heap.size, 1, none⟩) (by exact g7) (.slice o7 n7 c7))
      all_goals have M7 := num_put M6 V6 (.bool s7) (.slice o7 n7 c7)
      all_goals have P7 := num_put N7 V6 (.bool s7) (.slice o7 n7 c7)
      all_goals have L7 := (L6.setCell (p := ⟨w3.heap.size, 0, none⟩) (by simp; omega) (.bool s7)).setCell (p := ⟨w3.heap.size, 1, none⟩) (by simp; omega) (.slice o7 n7 c7)
      all_goals obtain ⟨E1, E2⟩ := D6 hx0 hRp hyp
      all_goals rw [show (if True then Q else -Q) + 1 = x / y by rw [E1]; simp] at M7
      all_goals rw [show -R - y = x % y by rw [E2]] at P7
      all_goals have F := div_done (k := k) L7 M7 (num_more P7 (Nat.le_succ _)) C7 D7
      all_goals (have c0 := C7.c 0 rfl; have cf0 := C7.f 0 rfl; have c1 := C7.c 1 rfl; have cf1 := C7.f 1 rfl; have cl := C7.lt; have d0 := D7.c 0 rfl; have df0 := D7.f 0 rfl; have d1 := D7.c 1 rfl; have df1 := D7.f 1 rfl; have dl := D7.lt; have u0 := U7.c 0 rfl; have u1 := U7.c 1 rfl; have ul := U7.lt)
      all_goals clear C6 D6' V6 U6 M6 L6 C7 D7 U7 M7 P7 L7 N7 g1 g2 g3 g4 g5 g6 g7
      all_goals go_wp2
      all_goals go_region
      all_goals go_wp2
      all_goals refine bodyPost_ret (v := .tuple #[.agg #[.bool s6, .slice o6 n6 c6], .agg #[.bool s7, .slice o7 n7 c7]]) (by simp [results, Try.results71, go_sem, c0, c1, d0, d1]) rfl ?_
      all_goals exact div_drawn F
  · have hv := Bool.eq_false_iff.2 hv
    subst hv
    have hres : (if s = t then Q else -Q) = x / y ∧ (if s then -R else R) = x % y := by
      have hs := hs.out
      have ht := ht.out
      obtain ⟨D1, D2, D3, D4, -, -⟩ := DS
      by_cases hx0 : x < 0
      · have es : s = true := by rw [hs]; simp [hx0]
        have hR : R = 0 := by rw [es] at hneg; simp at hneg; omega
        by_cases hy1 : y < 0
        · have et : t = true := by rw [ht]; simp [hy1]
          obtain ⟨e1, e2⟩ := D4 hx0 hR hy1
          rw [e1, e2, es, et, hR]; simp
        · have et : t = false := by rw [ht]; simp [hy1]
          obtain ⟨e1, e2⟩ := D3 hx0 hR (by omega)
          rw [e1, e2, es, et, hR]; simp
      · have es : s = false := by rw [hs]; simp [hx0]
        by_cases hy1 : y < 0
        · have et : t = true := by rw [ht]; simp [hy1]
          obtain ⟨e1, e2⟩ := D2 (by omega) hy1
          rw [e1, e2, es, et]; simp
        · have et : t = false := by rw [ht]; simp [hy1]
          obtain ⟨e1, e2⟩ := D1 (by omega) (by omega)
          rw [e1, e2, es, et]; simp
    rw [hres.1] at NU3
    rw [hres.2] at NV3
    have F := div_alloc (div_done HB3' (num_more NU3 (Nat.add_le_add_left (by decide) k)) (num_more NV3 (Nat.add_le_add_left (by decide) k)) C3 D3) (.cells #[.bool false, .slice o3 n3 c3] 56)
    clear hres hneg DS NU NV NU3 NV3 C3 D3 HB3' A B C D U V HB4
    go_wp2
    go_region
    all_goals go_wp2
    all_goals refine bodyPost_ret (v := .tuple #[.agg #[.bool s2, .slice o2 n2 c2], .agg #[.bool false, .slice o3 n3 c3]]) (by simp [results, Try.results71, go_sem, World.cell?_alloc_past, c0, c1, d0, d1, cl, dl]) rfl ?_
    all_goals exact div_drawn F
end Go.Proofs.Ytgmenloipiedeaa

/- Fractions: the model's word on whether one is right, and the law over both. -/
namespace Go.Proofs.Ytgmenloipiedeaa
open Go.RowKit
end Go.Proofs.Ytgmenloipiedeaa

/- Fractions in their order: the program's and the model's answer, and the law over both. -/
namespace Go.Proofs.Ytgmenloipiedeaa
open Go.RowKit
end Go.Proofs.Ytgmenloipiedeaa

/- The walk of a fraction in its lowest terms. -/
namespace Go.Proofs.Ytgmenloipiedeaa
open Go.RowKit
end Go.Proofs.Ytgmenloipiedeaa

/- Two numbers of digits laid behind the arguments; the model's tell of a number, its value known. -/
namespace Go.Proofs.Ytgmenloipiedeaa
open Go.RowKit
theorem IsNum.step {w w' : World} {s : Bool} {ao : Option Addr} {n cap : Nat} {ds : List Int} {z : Int} {k : Nat} (h : IsNum w s ao n cap ds z k) (hb : Below w.heap.size w w') : IsNum w' s ao n cap ds z k := h.below hb
theorem IsNum.alloc {w : World} {s : Bool} {ao : Option Addr} {n cap : Nat} {ds : List Int} {z : Int} {k : Nat} (h : IsNum w s ao n cap ds z k) (o : Obj) : IsNum (w.alloc o) s ao n cap ds z k := h.below ((Below.refl _ _).alloc (Nat.le_refl _) o)
theorem ArgsB.set2 {w W : World} {vss : List (List Value)} (h : ArgsB w W vss) {g : Nat} (hg : w.heap.size + vss.length ≤ g) (v0 v1 : Value) : ArgsB w ((W.setCell ⟨g, 0, none⟩ v0).setCell ⟨g, 1, none⟩ v1) vss := (h.set (by exact hg) _).set (by exact hg) _
theorem Blk.set2 {W : World} {vs : List Value} {v0 v1 : Value} {g g' : Nat} (G : Blk W g' vs) (hg : g' ≠ g) : Blk ((W.setCell ⟨g, 0, none⟩ v0).setCell ⟨g, 1, none⟩ v1) g' vs := (G.setO (by exact hg) _).setO (by exact hg) _
theorem Blk.stored2 {W : World} {g : Nat} {z0 z1 : Value} (G : Blk W g [z0, z1]) (v0 v1 : Value) : Blk ((W.setCell ⟨g, 0, none⟩ v0).setCell ⟨g, 1, none⟩ v1) g [v0, v1] := (G.setI 0 (by simp) v0).setI 1 (by simp) v1
theorem tellP_VP {z : Int} {w w' : World} {e : Ending} (h : TellP z w e w') : VP (tellV z) w e w' := by
  rcases h.2 with ⟨t, a3, a2, a1, a0, rfl, h3, h2, h1, h0, hz⟩ | ⟨t, rfl⟩
  · obtain ⟨rfl, rfl, rfl, rfl⟩ := wd_of h3 h2 h1 h0 hz
    exact ⟨by unfold tellV; rw [if_pos t], h.1⟩
  · exact ⟨by unfold tellV; rw [if_neg (by simp [t]), W40], h.1⟩
end Go.Proofs.Ytgmenloipiedeaa

/- The walk of the model's quotient and rest of two numbers of four words. -/
namespace Go.Proofs.Ytgmenloipiedeaa
open Go.RowKit
end Go.Proofs.Ytgmenloipiedeaa

/- The walk of the model's fraction in lowest terms. -/
namespace Go.Proofs.Ytgmenloipiedeaa
open Go.RowKit
/-- Two numbers of digits in one answer. -/
def NumsP (k : Nat) (x y : Int) (w : World) (e : Ending) (w' : World) : Prop :=
  ∃ (s1 : Bool) (o1 : Option Addr) (n1 c1 : Nat) (d1 : List Int) (s2 : Bool) (o2 : Option Addr) (n2 c2 : Nat) (d2 : List Int), e = .returned (.agg #[.bool s1, .slice o1 n1 c1, .bool s2, .slice o2 n2 c2]) ∧ IsNum w' s1 o1 n1 c1 d1 x k ∧ IsNum w' s2 o2 n2 c2 d2 y k ∧ Below w.heap.size w w'
theorem NumsP.drew {k : Nat} {x y : Int} {w w' : World} {e : Ending} (h : NumsP k x y w e w') : NumsP k x y w e w'.drew := by
  obtain ⟨s1, o1, n1, c1, d1, s2, o2, n2, c2, d2, e, N1, N2, hB⟩ := h
  exact ⟨s1, o1, n1, c1, d1, s2, o2, n2, c2, d2, e, N1.drew, N2.drew, hB.drew⟩
/-- The two numbers as they lie in the arguments' places. -/
def CutM (w wx : World) (x y : Int) (k : Nat) : Prop :=
  ∃ (s1 : Bool) (o1 : Option Addr) (n1 c1 : Nat) (d1 : List Int) (s2 : Bool) (o2 : Option Addr) (n2 c2 : Nat) (d2 : List Int), ArgsB w wx [[.bool s1, .slice o1 n1 c1], [.bool s2, .slice o2 n2 c2], [.bool false, .slice none 0 0, .bool false, .slice none 0 0]] ∧ IsNum wx s1 o1 n1 c1 d1 x k ∧ IsNum wx s2 o2 n2 c2 d2 y k
theorem CutM.drew {w W : World} {x y : Int} {k : Nat} (h : CutM w W x y k) : CutM w W.drew x y k := by
  obtain ⟨s1, o1, n1, c1, d1, s2, o2, n2, c2, d2, A, N1, N2⟩ := h
  exact ⟨s1, o1, n1, c1, d1, s2, o2, n2, c2, d2, A.drew, N1.drew, N2.drew⟩
theorem mk_cells {s : Bool} {o : Option Addr} {n c : Nat} {W : World} {g : Nat} (G : Blk W g [.bool s, .slice o n c]) : (fun w' => w'.cell? ⟨g, 0, none⟩ = some (.bool s) ∧ w'.cell? ⟨g, 1, none⟩ = some (.slice o n c)) W := ⟨G.c 0 rfl, G.c 1 rfl⟩
end Go.Proofs.Ytgmenloipiedeaa

/- Sums of numbers of eight words, and that words tell a number. -/
namespace Go.Proofs.Ytgmenloipiedeaa
open Go.RowKit
theorem sl_plus {x0 x1 x2 x3 x4 x5 x6 x7 y0 y1 y2 y3 y4 y5 y6 y7 : Int} {zs : List Int} {c : Int} (wx : Words [x0, x1, x2, x3, x4, x5, x6, x7]) (wy : Words [y0, y1, y2, y3, y4, y5, y6, y7]) (wz : Words zs) (hl : zs.length = 8) (c0 : 0 ≤ c) (c1 : c ≤ 1) (hv : val64 zs + c * pw64 8 = val64 [x0, x1, x2, x3, x4, x5, x6, x7] + val64 [y0, y1, y2, y3, y4, y5, y6, y7]) (hb : -6703903964971298549787012499102923063739682910296196688861780721860882015036773488400937149083451713845015929093243025426876941405973284973216824503042048 ≤ sl x0 x1 x2 x3 x4 x5 x6 x7 + sl y0 y1 y2 y3 y4 y5 y6 y7 ∧ sl x0 x1 x2 x3 x4 x5 x6 x7 + sl y0 y1 y2 y3 y4 y5 y6 y7 < 6703903964971298549787012499102923063739682910296196688861780721860882015036773488400937149083451713845015929093243025426876941405973284973216824503042048) : ∃ z0 z1 z2 z3 z4 z5 z6 z7, zs = [z0, z1, z2, z3, z4, z5, z6, z7] ∧ sl z0 z1 z2 z3 z4 z5 z6 z7 = sl x0 x1 x2 x3 x4 x5 x6 x7 + sl y0 y1 y2 y3 y4 y5 y6 y7 := by
  obtain ⟨z0, z1, z2, z3, z4, z5, z6, z7, rfl⟩ := list8' hl
  refine ⟨z0, z1, z2, z3, z4, z5, z6, z7, rfl, ?_⟩
  obtain ⟨t1, t2, t3⟩ := sl_top wz
  obtain ⟨u1, u2, u3⟩ := sl_top wx
  obtain ⟨v1, v2, v3⟩ := sl_top wy
  rw [pw64_8] at hv
  unfold sl at hb ⊢
  generalize val64 [z0, z1, z2, z3, z4, z5, z6, z7] = Z at *
  generalize val64 [x0, x1, x2, x3, x4, x5, x6, x7] = X at *
  generalize val64 [y0, y1, y2, y3, y4, y5, y6, y7] = Y at *
  simp only [t1, u1, v1] at hb ⊢
  clear t1 u1 v1
  by_cases hz : Z < 6703903964971298549787012499102923063739682910296196688861780721860882015036773488400937149083451713845015929093243025426876941405973284973216824503042048 <;> by_cases hx : X < 6703903964971298549787012499102923063739682910296196688861780721860882015036773488400937149083451713845015929093243025426876941405973284973216824503042048 <;> by_cases hy : Y < 6703903964971298549787012499102923063739682910296196688861780721860882015036773488400937149083451713845015929093243025426876941405973284973216824503042048 <;> simp only [hz, hx, hy, if_true, if_false] at hb ⊢ <;> (obtain rfl | rfl : c = 0 ∨ c = 1 := by omega) <;> omega
theorem plusS_any (x0 x1 x2 x3 x4 x5 x6 x7 y0 y1 y2 y3 y4 y5 y6 y7 : Int) (wx : Words [x0, x1, x2, x3, x4, x5, x6, x7]) (wy : Words [y0, y1, y2, y3, y4, y5, y6, y7]) (z : Int) (hz : sl x0 x1 x2 x3 x4 x5 x6 x7 + sl y0 y1 y2 y3 y4 y5 y6 y7 = z) (hb : -6703903964971298549787012499102923063739682910296196688861780721860882015036773488400937149083451713845015929093243025426876941405973284973216824503042048 ≤ z ∧ z < 6703903964971298549787012499102923063739682910296196688861780721860882015036773488400937149083451713845015929093243025426876941405973284973216824503042048) (w : World) : Calls Try.prog 40 #[L8 x0 x1 x2 x3 x4 x5 x6 x7, L8 y0 y1 y2 y3 y4 y5 y6 y7] w (TimesP z w) := by
  refine (plus8 x0 x1 x2 x3 x4 x5 x6 x7 y0 y1 y2 y3 y4 y5 y6 y7 wx wy w).mono ?_
  rintro e w1 ⟨zs, c, rfl, q1, q2, q3, q4, q5, hB⟩
  have z1' : zs.length = 8 := q1
  have z5' : val64 zs + c * pw64 8 = val64 [x0, x1, x2, x3, x4, x5, x6, x7] + val64 [y0, y1, y2, y3, y4, y5, y6, y7] := q5
  obtain ⟨z0, z1, z2, z3, z4, z5, z6, z7, rfl, hv⟩ := sl_plus wx wy q2 z1' q3 q4 z5' (by rw [hz]; exact hb)
  exact ⟨z0, z1, z2, z3, z4, z5, z6, z7, rfl, q2, hv.trans hz, hB⟩
theorem sl_inj {x0 x1 x2 x3 x4 x5 x6 x7 y0 y1 y2 y3 y4 y5 y6 y7 : Int} (wx : Words [x0, x1, x2, x3, x4, x5, x6, x7]) (wy : Words [y0, y1, y2, y3, y4, y5, y6, y7]) (h : sl x0 x1 x2 x3 x4 x5 x6 x7 = sl y0 y1 y2 y3 y4 y5 y6 y7) : [x0, x1, x2, x3, x4, x5, x6, x7] = [y0, y1, y2, y3, y4, y5, y6, y7] := by
  refine val64_inj wx wy rfl ?_
  obtain ⟨u1, u2, u3⟩ := sl_top wx
  obtain ⟨v1, v2, v3⟩ := sl_top wy
  revert h
  unfold sl
  split <;> split <;> intro h <;> omega
end Go.Proofs.Ytgmenloipiedeaa

/- A spot as a point: the walks of the model's numbers. -/
namespace Go.Proofs.Ytgmenloipiedeaa
open Go.RowKit
theorem implOf_det (n : Int) (w : World) (h0 : -9223372036854775808 ≤ n) (h1 : n ≤ 9223372036854775807) : Calls Try.prog 16 #[.int .i64 n] w (VP (W4 n) w) := by
  refine (implOf_any n w h0 h1).mono ?_
  rintro e w' ⟨a3, a2, a1, a0, rfl, g3, g2, g1, g0, hs, hB⟩
  obtain ⟨rfl, rfl, rfl, rfl⟩ := wd_of g3 g2 g1 g0 hs
  exact ⟨rfl, hB⟩
theorem toWp_det (s : Bool) (ao : Option Addr) (n cap : Nat) (ds : List Int) (z : Int) (k : Nat) (w : World) (h : IsNum w s ao n cap ds z k) (hk : k ≤ 1000000) (ht : told z = true) :
    Calls Try.prog 69 #[.agg #[.bool s, .slice ao n cap]] w (VP (.tuple #[W4 z, .bool true]) w) := by
  refine (toW_any s ao n cap ds z k w h hk).mono ?_
  rintro e w' ⟨hB, ⟨_, a3, a2, a1, a0, rfl, g3, g2, g1, g0, hs⟩ | ⟨hf, _⟩⟩
  · obtain ⟨rfl, rfl, rfl, rfl⟩ := wd_of g3 g2 g1 g0 hs
    exact ⟨rfl, hB⟩
  · rw [ht] at hf; cases hf
/-- Three numbers, side by side. -/
def L3P (k : Nat) (x y z : Int) (w : World) (e : Ending) (w' : World) : Prop :=
  ∃ (s1 : Bool) (o1 : Option Addr) (n1 c1 : Nat) (d1 : List Int) (s2 : Bool) (o2 : Option Addr) (n2 c2 : Nat) (d2 : List Int) (s3 : Bool) (o3 : Option Addr) (n3 c3 : Nat) (d3 : List Int), e = .returned (.agg #[.bool s1, .slice o1 n1 c1, .bool s2, .slice o2 n2 c2, .bool s3, .slice o3 n3 c3]) ∧ IsNum w' s1 o1 n1 c1 d1 x k ∧ IsNum w' s2 o2 n2 c2 d2 y k ∧ IsNum w' s3 o3 n3 c3 d3 z k ∧ Below w.heap.size w w'
theorem IsNum.setp {w : World} {s : Bool} {ao : Option Addr} {n cap : Nat} {ds : List Int} {z : Int} {k : Nat} (h : IsNum w s ao n cap ds z k) {p : Addr} {v : Value} (u : Value) (hp : w.cell? p = some v) (hv : ∀ x, v ≠ .int .u32 x) : IsNum (w.setCell p u) s ao n cap ds z k :=
  h.set hp hv u
theorem num_set6 {w : World} {s : Bool} {ao : Option Addr} {n cap : Nat} {ds : List Int} {z : Int} {k R : Nat} (h : IsNum w s ao n cap ds z k) (B : Blk w R [.bool false, .slice none 0 0, .bool false, .slice none 0 0, .bool false, .slice none 0 0]) (v0 v1 v2 v3 v4 v5 : Value) : IsNum ((((((w.setCell ⟨R, 0, none⟩ v0).setCell ⟨R, 1, none⟩ v1).setCell ⟨R, 2, none⟩ v2).setCell ⟨R, 3, none⟩ v3).setCell ⟨R, 4, none⟩ v4).setCell ⟨R, 5, none⟩ v5) s ao n cap ds z k := by
  have h1 := h.setp v0 (B.c 0 rfl) (by intro x e; cases e)
  have B1 := B.setI 0 (by simp) v0
  have h2 := h1.setp v1 (B1.c 1 rfl) (by intro x e; cases e)
  have B2 := B1.setI 1 (by simp) v1
  have h3 := h2.setp v2 (B2.c 2 rfl) (by intro x e; cases e)
  have B3 := B2.setI 2 (by simp) v2
  have h4 := h3.setp v3 (B3.c 3 rfl) (by intro x e; cases e)
  have B4 := B3.setI 3 (by simp) v3
  have h5 := h4.setp v4 (B4.c 4 rfl) (by intro x e; cases e)
  have B5 := B4.setI 4 (by simp) v4
  have h6 := h5.setp v5 (B5.c 5 rfl) (by intro x e; cases e)
  have B6 := B5.setI 5 (by simp) v5
  exact h6
theorem l3_cells {x y : Int} {w W : World} (h : ArgsB w W [[.int .i64 x, .int .i64 y], [.bool false, .slice none 0 0, .bool false, .slice none 0 0, .bool false, .slice none 0 0]]) : (fun w' => w'.cell? ⟨w.heap.size, 0, none⟩ = some (.int .i64 x) ∧ w'.cell? ⟨w.heap.size, 1, none⟩ = some (.int .i64 y)) W := ⟨(h.b 0 rfl).c 0 rfl, (h.b 0 rfl).c 1 rfl⟩
theorem l3_cells6 {x y : Int} {w W : World} {v0 v1 v2 v3 v4 v5 : Value} (h : ArgsB w W [[.int .i64 x, .int .i64 y], [.bool false, .slice none 0 0, .bool false, .slice none 0 0, .bool false, .slice none 0 0]]) : (fun w' => w'.cell? ⟨w.heap.size, 0, none⟩ = some (.int .i64 x) ∧ w'.cell? ⟨w.heap.size, 1, none⟩ = some (.int .i64 y)) ((((((W.setCell ⟨w.heap.size + 1, 0, none⟩ v0).setCell ⟨w.heap.size + 1, 1, none⟩ v1).setCell ⟨w.heap.size + 1, 2, none⟩ v2).setCell ⟨w.heap.size + 1, 3, none⟩ v3).setCell ⟨w.heap.size + 1, 4, none⟩ v4).setCell ⟨w.heap.size + 1, 5, none⟩ v5) := by
  have a : Blk _ (w.heap.size + 0) _ := (((((((h.b 0 rfl).setO (p := ⟨w.heap.size + 1, 0, none⟩) (by show w.heap.size + 0 ≠ w.heap.size + 1; omega) v0).setO (p := ⟨w.heap.size + 1, 1, none⟩) (by show w.heap.size + 0 ≠ w.heap.size + 1; omega) v1).setO (p := ⟨w.heap.size + 1, 2, none⟩) (by show w.heap.size + 0 ≠ w.heap.size + 1; omega) v2).setO (p := ⟨w.heap.size + 1, 3, none⟩) (by show w.heap.size + 0 ≠ w.heap.size + 1; omega) v3).setO (p := ⟨w.heap.size + 1, 4, none⟩) (by show w.heap.size + 0 ≠ w.heap.size + 1; omega) v4).setO (p := ⟨w.heap.size + 1, 5, none⟩) (by show w.heap.size + 0 ≠ w.heap.size + 1; omega) v5)
  exact ⟨a.c 0 rfl, a.c 1 rfl⟩
theorem l3_start (x y : Int) (w : World) : ArgsB w ((w.alloc (.cells #[.int .i64 x, .int .i64 y] 91)).alloc (.cells #[.bool false, .slice none 0 0, .bool false, .slice none 0 0, .bool false, .slice none 0 0] 58)) [[.int .i64 x, .int .i64 y], [.bool false, .slice none 0 0, .bool false, .slice none 0 0, .bool false, .slice none 0 0]] := by
  refine ⟨((Below.refl _ _).alloc (Nat.le_refl _) _).alloc (by simp) _, fun j vs hj => ?_⟩
  match j, hj with
  | 0, hj => cases hj; exact (Blk.new w [.int .i64 x, .int .i64 y] 91 rfl).alloc _
  | 1, hj => cases hj; exact Blk.new (w.alloc (.cells #[.int .i64 x, .int .i64 y] 91)) [.bool false, .slice none 0 0, .bool false, .slice none 0 0, .bool false, .slice none 0 0] 58 (by simp)
  | j + 2, hj => simp at hj
set_option maxRecDepth 100000 in
set_option maxHeartbeats 2000000 in
theorem l3Spot_any (x y : Int) (hx0 : -9223372036854775808 ≤ x) (hx1 : x ≤ 9223372036854775807) (hy0 : -9223372036854775808 ≤ y) (hy1 : y ≤ 9223372036854775807) (w : World) :
    Calls Try.prog 94 #[.agg #[.int .i64 x, .int .i64 y]] w (L3P 2 x y 1 w) := by
  have T0 := l3_start x y w
  have tok1 : True := trivial
  have tok2 : True := trivial
  go_enter Try.func94, Try.ntmps94
  go_upto_region 1 with fail
  generalize ((w.alloc (.cells #[.int .i64 x, .int .i64 y] 91)).alloc (.cells #[.bool false, .slice none 0 0, .bool false, .slice none 0 0, .bool false, .slice none 0 0] 58)) = W at *
  go_region_held3 (fun w' => w'.cell? ⟨w.heap.size, 0, none⟩ = some (.int .i64 x) ∧ w'.cell? ⟨w.heap.size, 1, none⟩ = some (.int .i64 y)) (first | (with_reducible exact l3_cells T0) | (with_reducible exact l3_cells T0.drew) | (with_reducible exact l3_cells6 T0))
    (first
      | (go_at_call 35; have _t := tok1; refine (int_any x _ hx0 hx1).mono ?_; rintro e w1 ⟨s1, o1, n1, c1, d1, rfl, N1, hB⟩; (first | (have T1 := T0.step hB) | (have T1 := T0.drew.step hB)); clear T0; have T0 := T1; clear T1; clear tok1 _t hB)
      | (go_at_call 35; have _t := tok2; refine (int_any y _ hy0 hy1).mono ?_; rintro e w2 ⟨s2, o2, n2, c2, d2, rfl, N2, hB⟩; replace N1 := N1.below hB; (first | (have T1 := T0.step hB) | (have T1 := T0.drew.step hB)); clear T0; have T0 := T1; clear T1; clear tok2 _t hB)
      | (go_at_call 35; refine (int_any 1 _ (by decide) (by decide)).mono ?_; rintro e w3 ⟨s3, o3, n3, c3, d3, rfl, N3, hB⟩; replace N1 := N1.below hB; replace N2 := N2.below hB; (first | (have T1 := T0.step hB) | (have T1 := T0.drew.step hB)); clear T0; have T0 := T1; clear T1; have r0 := (T0.b 1 rfl).c 0 rfl; have f0 := (T0.b 1 rfl).f 0 rfl; have r1 := (T0.b 1 rfl).c 1 rfl; have f1 := (T0.b 1 rfl).f 1 rfl; have r2 := (T0.b 1 rfl).c 2 rfl; have f2 := (T0.b 1 rfl).f 2 rfl; have r3 := (T0.b 1 rfl).c 3 rfl; have f3 := (T0.b 1 rfl).f 3 rfl; have r4 := (T0.b 1 rfl).c 4 rfl; have f4 := (T0.b 1 rfl).f 4 rfl; have r5 := (T0.b 1 rfl).c 5 rfl; have f5 := (T0.b 1 rfl).f 5 rfl; have rlt := (T0.b 1 rfl).lt; clear hB))
  all_goals have HB := T0.below
  all_goals have M1 := num_set6 N1 (T0.b 1 rfl) (.bool s1) (.slice o1 n1 c1) (.bool s2) (.slice o2 n2 c2) (.bool s3) (.slice o3 n3 c3)
  all_goals have M2 := num_set6 N2 (T0.b 1 rfl) (.bool s1) (.slice o1 n1 c1) (.bool s2) (.slice o2 n2 c2) (.bool s3) (.slice o3 n3 c3)
  all_goals have M3 := num_set6 N3 (T0.b 1 rfl) (.bool s1) (.slice o1 n1 c1) (.bool s2) (.slice o2 n2 c2) (.bool s3) (.slice o3 n3 c3)
  all_goals clear T0 N1 N2 N3
  all_goals go_wp2
  all_goals refine bodyPost_ret (v := .agg #[.bool s1, .slice o1 n1 c1, .bool s2, .slice o2 n2 c2, .bool s3, .slice o3 n3 c3]) (by simp [results, Try.results94, go_sem, r0, r1, r2, r3, r4, r5]) rfl ?_
  all_goals refine ⟨s1, o1, n1, c1, d1, s2, o2, n2, c2, d2, s3, o3, n3, c3, d3, rfl, M1, M2, M3, ?_⟩
  all_goals repeat' (refine Below.setCell ?_ (by simp) _)
  all_goals exact HB
end Go.Proofs.Ytgmenloipiedeaa

/- A spot as a point: the walks of the model's point of numbers. -/
namespace Go.Proofs.Ytgmenloipiedeaa
open Go.RowKit
theorem ret_bool {a b : Bool} (h : b = a) : Ending.returned (.bool a) = .returned (.bool b) := by rw [h]
def small (z : Int) : Bool := decide ((z.natAbs : Int) < 1208925819614629174706176)
theorem bits_small {v : Int} {b : Nat} (h : BitsOf v b) : b ≤ 80 ↔ v < 1208925819614629174706176 := by
  obtain ⟨h0, h1, h2⟩ := h
  have e : (2 : Int) ^ 80 = 1208925819614629174706176 := by decide
  constructor
  · intro hb
    have := ipow2_mono hb
    omega
  · intro hv
    apply Decidable.byContradiction
    intro hb
    rcases h2 with h2 | h2
    · omega
    · have := ipow2_mono (show 80 ≤ b - 1 by omega)
      omega
set_option maxRecDepth 100000 in
set_option maxHeartbeats 2000000 in
theorem l3Small_any (s1 : Bool) (o1 : Option Addr) (n1 c1 : Nat) (d1 : List Int) (s2 : Bool) (o2 : Option Addr) (n2 c2 : Nat) (d2 : List Int) (s3 : Bool) (o3 : Option Addr) (n3 c3 : Nat) (d3 : List Int) (x y z : Int) (k : Nat) (hk : k ≤ 100000) (w : World) (N1 : IsNum w s1 o1 n1 c1 d1 x k) (N2 : IsNum w s2 o2 n2 c2 d2 y k) (N3 : IsNum w s3 o3 n3 c3 d3 z k) :
    Calls Try.prog 64 #[.agg #[.bool s1, .slice o1 n1 c1, .bool s2, .slice o2 n2 c2, .bool s3, .slice o3 n3 c3]] w (BoolP (small x && small y && small z) w) := by
  have B0 := Blk.new w [.bool s1, .slice o1 n1 c1, .bool s2, .slice o2 n2 c2, .bool s3, .slice o3 n3 c3] 58 rfl
  have HB0 : Below w.heap.size w (w.alloc (.cells #[.bool s1, .slice o1 n1 c1, .bool s2, .slice o2 n2 c2, .bool s3, .slice o3 n3 c3] 58)) := (Below.refl _ _).alloc (Nat.le_refl _) _
  replace N1 := N1.below HB0
  replace N2 := N2.below HB0
  replace N3 := N3.below HB0
  by_cases h1 : small x = true
  · by_cases h2 : small y = true
    · by_cases h3 : small z = true
      · go_enter Try.func64, Try.ntmps64
        go_wp2_with fail
        refine (bits_any o1 n1 c1 d1 _ N1.len N1.nrm N1.rd (by have := N1.le; omega)).mono ?_
        rintro e w1 ⟨b1, rfl, hb1, hB⟩
        rw [N1.val] at hb1
        have q1 : (b1 : Int) ≤ 80 := by have := bits_small hb1; have := h1; unfold small at this; simp at this ⊢; omega
        have HB1 : Below w.heap.size w w1 := HB0.trans (hB.mono HB0.size)
        replace B0 := B0.step hB
        replace N1 := N1.below hB
        replace N2 := N2.below hB
        replace N3 := N3.below hB
        clear hB hb1
        have e0 := B0.c 0 rfl; have e1 := B0.c 1 rfl; have e2 := B0.c 2 rfl; have e3 := B0.c 3 rfl; have e4 := B0.c 4 rfl; have e5 := B0.c 5 rfl; have elt := B0.lt
        go_wp2_with fail
        refine (bits_any o2 n2 c2 d2 _ N2.len N2.nrm N2.rd (by have := N2.le; omega)).mono ?_
        rintro e w2 ⟨b2, rfl, hb2, hB⟩
        rw [N2.val] at hb2
        have q2 : (b2 : Int) ≤ 80 := by have := bits_small hb2; have := h2; unfold small at this; simp at this ⊢; omega
        have HB2 : Below w.heap.size w w2 := HB1.trans (hB.mono HB1.size)
        replace B0 := B0.step hB
        replace N1 := N1.below hB
        replace N2 := N2.below hB
        replace N3 := N3.below hB
        clear e0 e1 e2 e3 e4 e5 elt
        clear hB hb2
        have e0 := B0.c 0 rfl; have e1 := B0.c 1 rfl; have e2 := B0.c 2 rfl; have e3 := B0.c 3 rfl; have e4 := B0.c 4 rfl; have e5 := B0.c 5 rfl; have elt := B0.lt
        go_wp2_with fail
        refine (bits_any o3 n3 c3 d3 _ N3.len N3.nrm N3.rd (by have := N3.le; omega)).mono ?_
        rintro e w3 ⟨b3, rfl, hb3, hB⟩
        rw [N3.val] at hb3
        have q3 : (b3 : Int) ≤ 80 := by have := bits_small hb3; have := h3; unfold small at this; simp at this ⊢; omega
        have HB3 : Below w.heap.size w w3 := HB2.trans (hB.mono HB2.size)
        clear e0 e1 e2 e3 e4 e5 elt
        clear hB hb3
        go_wp2
        go_ret
        exact ⟨ret_bool (by simp [h1, h2, h3]), HB3⟩
      · have h3 := Bool.eq_false_iff.2 h3
        go_enter Try.func64, Try.ntmps64
        go_wp2_with fail
        refine (bits_any o1 n1 c1 d1 _ N1.len N1.nrm N1.rd (by have := N1.le; omega)).mono ?_
        rintro e w1 ⟨b1, rfl, hb1, hB⟩
        rw [N1.val] at hb1
        have q1 : (b1 : Int) ≤ 80 := by have := bits_small hb1; have := h1; unfold small at this; simp at this ⊢; omega
        have HB1 : Below w.heap.size w w1 := HB0.trans (hB.mono HB0.size)
        replace B0 := B0.step hB
        replace N1 := N1.below hB
        replace N2 := N2.below hB
        replace N3 := N3.below hB
        clear hB hb1
        have e0 := B0.c 0 rfl; have e1 := B0.c 1 rfl; have e2 := B0.c 2 rfl; have e3 := B0.c 3 rfl; have e4 := B0.c 4 rfl; have e5 := B0.c 5 rfl; have elt := B0.lt
        go_wp2_with fail
        refine (bits_any o2 n2 c2 d2 _ N2.len N2.nrm N2.rd (by have := N2.le; omega)).mono ?_
        rintro e w2 ⟨b2, rfl, hb2, hB⟩
        rw [N2.val] at hb2
        have q2 : (b2 : Int) ≤ 80 := by have := bits_small hb2; have := h2; unfold small at this; simp at this ⊢; omega
        have HB2 : Below w.heap.size w w2 := HB1.trans (hB.mono HB1.size)
        replace B0 := B0.step hB
        replace N1 := N1.below hB
        replace N2 := N2.below hB
        replace N3 := N3.below hB
        clear e0 e1 e2 e3 e4 e5 elt
        clear hB hb2
        have e0 := B0.c 0 rfl; have e1 := B0.c 1 rfl; have e2 := B0.c 2 rfl; have e3 := B0.c 3 rfl; have e4 := B0.c 4 rfl; have e5 := B0.c 5 rfl; have elt := B0.lt
        go_wp2_with fail
        refine (bits_any o3 n3 c3 d3 _ N3.len N3.nrm N3.rd (by have := N3.le; omega)).mono ?_
        rintro e w3 ⟨b3, rfl, hb3, hB⟩
        rw [N3.val] at hb3
        have q3 : decide ((b3 : Int) ≤ 80) = false := by have := bits_small hb3; have := h3; unfold small at this; simp at this ⊢; omega
        have HB3 : Below w.heap.size w w3 := HB2.trans (hB.mono HB2.size)
        clear e0 e1 e2 e3 e4 e5 elt
        clear hB hb3
        go_wp2
        go_ret
        exact ⟨ret_bool (by simp [h1, h2, h3]; try (simp at q3; omega)), HB3⟩
    · have h2 := Bool.eq_false_iff.2 h2
      go_enter Try.func64, Try.ntmps64
      go_wp2_with fail
      refine (bits_any o1 n1 c1 d1 _ N1.len N1.nrm N1.rd (by have := N1.le; omega)).mono ?_
      rintro e w1 ⟨b1, rfl, hb1, hB⟩
      rw [N1.val] at hb1
      have q1 : (b1 : Int) ≤ 80 := by have := bits_small hb1; have := h1; unfold small at this; simp at this ⊢; omega
      have HB1 : Below w.heap.size w w1 := HB0.trans (hB.mono HB0.size)
      replace B0 := B0.step hB
      replace N1 := N1.below hB
      replace N2 := N2.below hB
      replace N3 := N3.below hB
      clear hB hb1
      have e0 := B0.c 0 rfl; have e1 := B0.c 1 rfl; have e2 := B0.c 2 rfl; have e3 := B0.c 3 rfl; have e4 := B0.c 4 rfl; have e5 := B0.c 5 rfl; have elt := B0.lt
      go_wp2_with fail
      refine (bits_any o2 n2 c2 d2 _ N2.len N2.nrm N2.rd (by have := N2.le; omega)).mono ?_
      rintro e w2 ⟨b2, rfl, hb2, hB⟩
      rw [N2.val] at hb2
      have q2 : decide ((b2 : Int) ≤ 80) = false := by have := bits_small hb2; have := h2; unfold small at this; simp at this ⊢; omega
      have HB2 : Below w.heap.size w w2 := HB1.trans (hB.mono HB1.size)
      clear e0 e1 e2 e3 e4 e5 elt
      clear hB hb2
      go_wp2
      go_ret
      exact ⟨ret_bool (by simp [h1, h2]; try (simp at q2; omega)), HB2⟩
  · have h1 := Bool.eq_false_iff.2 h1
    go_enter Try.func64, Try.ntmps64
    go_wp2_with fail
    refine (bits_any o1 n1 c1 d1 _ N1.len N1.nrm N1.rd (by have := N1.le; omega)).mono ?_
    rintro e w1 ⟨b1, rfl, hb1, hB⟩
    rw [N1.val] at hb1
    have q1 : decide ((b1 : Int) ≤ 80) = false := by have := bits_small hb1; have := h1; unfold small at this; simp at this ⊢; omega
    have HB1 : Below w.heap.size w w1 := HB0.trans (hB.mono HB0.size)
    clear hB hb1
    go_wp2
    go_ret
    exact ⟨ret_bool (by simp [h1]; try (simp at q1; omega)), HB1⟩
end Go.Proofs.Ytgmenloipiedeaa
