/- Part 7 of the walks that the proof leans on. -/
import Derived.Test.YtjhmacpejfldoaaPart6
import Derived.Test.YtjhmacpejfldoaaPart4
import Derived.Test.YtjhmacpejfldoaaPart2
import Derived.Test.YtjhmacpejfldoaaPart3
import Derived.Deep.RegionHeld3
import Derived.Deep.DeepCutAuto
import Derived.Test.YtjhmacpejfldoaaPart1
import Derived.Test.YtjhmacpejfldoaaRows
import Derived.ProofKit
import Derived.Lib.SmallJoins
import Derived.Deep.Strs
import Derived.Deep.QuietTactic
import Derived.BigQuiet
/- The walk of what a long is when it is divided by a divisor of it, told as four words. -/
namespace Go.Proofs.Ytjhmacpejfldoaa
open Go.RowKit
theorem sl_below (x0 x1 x2 x3 x4 x5 x6 x7 : Int) (wx : Words [x0, x1, x2, x3, x4, x5, x6, x7]) : (x7 / 9223372036854775808 == 1) = decide ((sl x0 x1 x2 x3 x4 x5 x6 x7) < 0) := by
  obtain ⟨t1, t2, t3⟩ := sl_top wx
  have h7 := (words8_of wx).2.2.2.2.2.2.2
  rw [Bool.eq_iff_iff]
  unfold sl
  unfold Word at h7
  simp only [beq_iff_eq, decide_eq_true_eq]
  split <;> omega
theorem isBelowL_det (x0 x1 x2 x3 x4 x5 x6 x7 : Int) (wx : Words [x0, x1, x2, x3, x4, x5, x6, x7]) (w : World) : Calls Try.prog 90 #[L8 x0 x1 x2 x3 x4 x5 x6 x7] w (VP (.bool (decide ((sl x0 x1 x2 x3 x4 x5 x6 x7) < 0))) w) := by
  refine (isBelowL_any x0 x1 x2 x3 x4 x5 x6 x7 w).mono ?_
  rintro e w1 ⟨rfl, hB⟩
  exact ⟨by rw [sl_below x0 x1 x2 x3 x4 x5 x6 x7 wx], hB⟩
theorem sizeX_det (x0 x1 x2 x3 x4 x5 x6 x7 : Int) (wx : Words [x0, x1, x2, x3, x4, x5, x6, x7]) (u0 u1 u2 u3 u4 u5 u6 u7 : Int) (hu : Words [u0, u1, u2, u3, u4, u5, u6, u7]) (hv : val64 [u0, u1, u2, u3, u4, u5, u6, u7] = ((sl x0 x1 x2 x3 x4 x5 x6 x7).natAbs : Int)) (w : World) : Calls Try.prog 88 #[L8 x0 x1 x2 x3 x4 x5 x6 x7] w (VP (L8 u0 u1 u2 u3 u4 u5 u6 u7) w) := by
  refine (sizeL_any x0 x1 x2 x3 x4 x5 x6 x7 wx w).mono ?_
  rintro e w1 ⟨zs, rfl, zl, zw, zv, hB⟩
  obtain rfl : zs = [u0, u1, u2, u3, u4, u5, u6, u7] := val64_inj zw hu (zl.trans rfl) (zv.trans hv.symm)
  exact ⟨rfl, hB⟩
theorem sh_cells {x0 x1 x2 x3 x4 x5 x6 x7 y0 y1 y2 y3 y4 y5 y6 y7 : Int} {w W : World} {cs : List (List Value)} (h : ArgsB w W ([.int .u64 x0, .int .u64 x1, .int .u64 x2, .int .u64 x3, .int .u64 x4, .int .u64 x5, .int .u64 x6, .int .u64 x7] :: [.int .u64 y0, .int .u64 y1, .int .u64 y2, .int .u64 y3, .int .u64 y4, .int .u64 y5, .int .u64 y6, .int .u64 y7] :: cs)) : (fun w' => w'.cell? ⟨w.heap.size, 0, none⟩ = some (.int .u64 x0) ∧ w'.cell? ⟨w.heap.size, 1, none⟩ = some (.int .u64 x1) ∧ w'.cell? ⟨w.heap.size, 2, none⟩ = some (.int .u64 x2) ∧ w'.cell? ⟨w.heap.size, 3, none⟩ = some (.int .u64 x3) ∧ w'.cell? ⟨w.heap.size, 4, none⟩ = some (.int .u64 x4) ∧ w'.cell? ⟨w.heap.size, 5, none⟩ = some (.int .u64 x5) ∧ w'.cell? ⟨w.heap.size, 6, none⟩ = some (.int .u64 x6) ∧ w'.cell? ⟨w.heap.size, 7, none⟩ = some (.int .u64 x7) ∧ w'.cell? ⟨w.heap.size + 1, 0, none⟩ = some (.int .u64 y0) ∧ w'.cell? ⟨w.heap.size + 1, 1, none⟩ = some (.int .u64 y1) ∧ w'.cell? ⟨w.heap.size + 1, 2, none⟩ = some (.int .u64 y2) ∧ w'.cell? ⟨w.heap.size + 1, 3, none⟩ = some (.int .u64 y3) ∧ w'.cell? ⟨w.heap.size + 1, 4, none⟩ = some (.int .u64 y4) ∧ w'.cell? ⟨w.heap.size + 1, 5, none⟩ = some (.int .u64 y5) ∧ w'.cell? ⟨w.heap.size + 1, 6, none⟩ = some (.int .u64 y6) ∧ w'.cell? ⟨w.heap.size + 1, 7, none⟩ = some (.int .u64 y7)) W :=
  ⟨(h.b 0 rfl).c 0 rfl, (h.b 0 rfl).c 1 rfl, (h.b 0 rfl).c 2 rfl, (h.b 0 rfl).c 3 rfl, (h.b 0 rfl).c 4 rfl, (h.b 0 rfl).c 5 rfl, (h.b 0 rfl).c 6 rfl, (h.b 0 rfl).c 7 rfl, (h.b 1 rfl).c 0 rfl, (h.b 1 rfl).c 1 rfl, (h.b 1 rfl).c 2 rfl, (h.b 1 rfl).c 3 rfl, (h.b 1 rfl).c 4 rfl, (h.b 1 rfl).c 5 rfl, (h.b 1 rfl).c 6 rfl, (h.b 1 rfl).c 7 rfl⟩
theorem sh_cells2 {x0 x1 x2 x3 x4 x5 x6 x7 y0 y1 y2 y3 y4 y5 y6 y7 q0 q1 q2 q3 q4 q5 q6 q7 : Int} {w W : World} {gq : Nat} (h : ArgsB w W [[.int .u64 x0, .int .u64 x1, .int .u64 x2, .int .u64 x3, .int .u64 x4, .int .u64 x5, .int .u64 x6, .int .u64 x7], [.int .u64 y0, .int .u64 y1, .int .u64 y2, .int .u64 y3, .int .u64 y4, .int .u64 y5, .int .u64 y6, .int .u64 y7]]) (G : Blk W gq [.int .u64 q0, .int .u64 q1, .int .u64 q2, .int .u64 q3, .int .u64 q4, .int .u64 q5, .int .u64 q6, .int .u64 q7]) : (fun w' => w'.cell? ⟨w.heap.size, 0, none⟩ = some (.int .u64 x0) ∧ w'.cell? ⟨w.heap.size, 1, none⟩ = some (.int .u64 x1) ∧ w'.cell? ⟨w.heap.size, 2, none⟩ = some (.int .u64 x2) ∧ w'.cell? ⟨w.heap.size, 3, none⟩ = some (.int .u64 x3) ∧ w'.cell? ⟨w.heap.size, 4, none⟩ = some (.int .u64 x4) ∧ w'.cell? ⟨w.heap.size, 5, none⟩ = some (.int .u64 x5) ∧ w'.cell? ⟨w.heap.size, 6, none⟩ = some (.int .u64 x6) ∧ w'.cell? ⟨w.heap.size, 7, none⟩ = some (.int .u64 x7) ∧ w'.cell? ⟨gq, 0, none⟩ = some (.int .u64 q0) ∧ w'.cell? ⟨gq, 1, none⟩ = some (.int .u64 q1) ∧ w'.cell? ⟨gq, 2, none⟩ = some (.int .u64 q2) ∧ w'.cell? ⟨gq, 3, none⟩ = some (.int .u64 q3) ∧ w'.cell? ⟨gq, 4, none⟩ = some (.int .u64 q4) ∧ w'.cell? ⟨gq, 5, none⟩ = some (.int .u64 q5) ∧ w'.cell? ⟨gq, 6, none⟩ = some (.int .u64 q6) ∧ w'.cell? ⟨gq, 7, none⟩ = some (.int .u64 q7)) W :=
  ⟨(h.b 0 rfl).c 0 rfl, (h.b 0 rfl).c 1 rfl, (h.b 0 rfl).c 2 rfl, (h.b 0 rfl).c 3 rfl, (h.b 0 rfl).c 4 rfl, (h.b 0 rfl).c 5 rfl, (h.b 0 rfl).c 6 rfl, (h.b 0 rfl).c 7 rfl, G.c 0 rfl, G.c 1 rfl, G.c 2 rfl, G.c 3 rfl, G.c 4 rfl, G.c 5 rfl, G.c 6 rfl, G.c 7 rfl⟩
theorem ArgsB.drop3 {w W : World} {a b c : List Value} (h : ArgsB w W [a, b, c]) : ArgsB w W [a, b] := by
  refine ⟨h.1, fun j vs hj => h.2 j vs ?_⟩
  match j, hj with
  | 0, hj => exact hj
  | 1, hj => exact hj
  | j + 2, hj => simp at hj
theorem sh_args (x0 x1 x2 x3 x4 x5 x6 x7 y0 y1 y2 y3 y4 y5 y6 y7 : Int) (w : World) : ArgsB w (((w.alloc (.cells #[.int .u64 x0, .int .u64 x1, .int .u64 x2, .int .u64 x3, .int .u64 x4, .int .u64 x5, .int .u64 x6, .int .u64 x7] 77)).alloc (.cells #[.int .u64 y0, .int .u64 y1, .int .u64 y2, .int .u64 y3, .int .u64 y4, .int .u64 y5, .int .u64 y6, .int .u64 y7] 77)).alloc (.cells #[.int .u64 0, .int .u64 0, .int .u64 0, .int .u64 0] 31)) [[.int .u64 x0, .int .u64 x1, .int .u64 x2, .int .u64 x3, .int .u64 x4, .int .u64 x5, .int .u64 x6, .int .u64 x7], [.int .u64 y0, .int .u64 y1, .int .u64 y2, .int .u64 y3, .int .u64 y4, .int .u64 y5, .int .u64 y6, .int .u64 y7], [.int .u64 0, .int .u64 0, .int .u64 0, .int .u64 0]] := by
  refine ⟨(((Below.refl _ _).alloc (Nat.le_refl _) _).alloc (by simp) _).alloc (by simp; omega) _, fun j vs hj => ?_⟩
  match j, hj with
  | 0, hj => cases hj; exact ((Blk.new w [.int .u64 x0, .int .u64 x1, .int .u64 x2, .int .u64 x3, .int .u64 x4, .int .u64 x5, .int .u64 x6, .int .u64 x7] 77 rfl).alloc _).alloc _
  | 1, hj => cases hj; exact (Blk.new (w.alloc (.cells #[.int .u64 x0, .int .u64 x1, .int .u64 x2, .int .u64 x3, .int .u64 x4, .int .u64 x5, .int .u64 x6, .int .u64 x7] 77)) [.int .u64 y0, .int .u64 y1, .int .u64 y2, .int .u64 y3, .int .u64 y4, .int .u64 y5, .int .u64 y6, .int .u64 y7] 77 (by simp)).alloc _
  | 2, hj => cases hj; exact Blk.new ((w.alloc (.cells #[.int .u64 x0, .int .u64 x1, .int .u64 x2, .int .u64 x3, .int .u64 x4, .int .u64 x5, .int .u64 x6, .int .u64 x7] 77)).alloc (.cells #[.int .u64 y0, .int .u64 y1, .int .u64 y2, .int .u64 y3, .int .u64 y4, .int .u64 y5, .int .u64 y6, .int .u64 y7] 77)) [.int .u64 0, .int .u64 0, .int .u64 0, .int .u64 0] 31 (by simp)
  | j + 3, hj => simp at hj
/-- What is told of a quotient with its sign. -/
def shareZ (x d : Int) (b : Bool) : Int := if decide (x < 0) != b then -((x.natAbs : Int) / d) else (x.natAbs : Int) / d
set_option maxRecDepth 100000 in
set_option maxHeartbeats 4000000 in
theorem share_any (x0 x1 x2 x3 x4 x5 x6 x7 y0 y1 y2 y3 y4 y5 y6 y7 : Int) (b : Bool) (wx : Words [x0, x1, x2, x3, x4, x5, x6, x7]) (wy : Words [y0, y1, y2, y3, y4, y5, y6, y7]) (hy : 0 < (val64 [y0, y1, y2, y3, y4, y5, y6, y7])) (hX : -6703903964971298549787012499102923063739682910296196688861780721860882015036773488400937149083451713845015929093243025426876941405973284973216824503042048 < (sl x0 x1 x2 x3 x4 x5 x6 x7)) (w : World) : Calls Try.prog 89 #[L8 x0 x1 x2 x3 x4 x5 x6 x7, L8 y0 y1 y2 y3 y4 y5 y6 y7, .bool b] w (VP (tellV (shareZ (sl x0 x1 x2 x3 x4 x5 x6 x7) (val64 [y0, y1, y2, y3, y4, y5, y6, y7]) b)) w) := by
  have T0 := sh_args x0 x1 x2 x3 x4 x5 x6 x7 y0 y1 y2 y3 y4 y5 y6 y7 w
  have hX2 : (((sl x0 x1 x2 x3 x4 x5 x6 x7).natAbs : Int)) < 6703903964971298549787012499102923063739682910296196688861780721860882015036773488400937149083451713845015929093243025426876941405973284973216824503042048 := by
    obtain ⟨t1, t2, t3⟩ := sl_top wx
    revert hX
    unfold sl
    split <;> omega
  have hq0 : 0 ≤ (((sl x0 x1 x2 x3 x4 x5 x6 x7).natAbs : Int) / (val64 [y0, y1, y2, y3, y4, y5, y6, y7])) := Int.ediv_nonneg (by omega) (by omega)
  have hq1 : (((sl x0 x1 x2 x3 x4 x5 x6 x7).natAbs : Int) / (val64 [y0, y1, y2, y3, y4, y5, y6, y7])) ≤ ((sl x0 x1 x2 x3 x4 x5 x6 x7).natAbs : Int) := Int.ediv_le_self _ (by omega)
  have hr0 := Int.emod_nonneg ((sl x0 x1 x2 x3 x4 x5 x6 x7).natAbs : Int) (b := (val64 [y0, y1, y2, y3, y4, y5, y6, y7])) (by omega)
  have hr1 := Int.emod_lt_of_pos ((sl x0 x1 x2 x3 x4 x5 x6 x7).natAbs : Int) hy
  have hy1 := (sl_top wy).2.2
  obtain ⟨u0, u1, u2, u3, u4, u5, u6, u7, wu, uv⟩ := words8_ex ((sl x0 x1 x2 x3 x4 x5 x6 x7).natAbs : Int) (by omega) (by omega)
  obtain ⟨q0, q1, q2, q3, q4, q5, q6, q7, wq, qv⟩ := words8_ex (((sl x0 x1 x2 x3 x4 x5 x6 x7).natAbs : Int) / (val64 [y0, y1, y2, y3, y4, y5, y6, y7])) hq0 (by omega)
  obtain ⟨r0, r1, r2, r3, r4, r5, r6, r7, wr, rv⟩ := words8_ex (((sl x0 x1 x2 x3 x4 x5 x6 x7).natAbs : Int) % (val64 [y0, y1, y2, y3, y4, y5, y6, y7])) hr0 (by omega)
  have SA := sizeX_det x0 x1 x2 x3 x4 x5 x6 x7 wx u0 u1 u2 u3 u4 u5 u6 u7 wu uv
  have DV := divL_det u0 u1 u2 u3 u4 u5 u6 u7 y0 y1 y2 y3 y4 y5 y6 y7 q0 q1 q2 q3 q4 q5 q6 q7 r0 r1 r2 r3 r4 r5 r6 r7 wu wy wq wr hy (by rw [qv, uv]) (by rw [rv, uv])
  have NA := isBelowL_det x0 x1 x2 x3 x4 x5 x6 x7 wx
  have SG := signedL_any q0 q1 q2 q3 q4 q5 q6 q7 (decide ((sl x0 x1 x2 x3 x4 x5 x6 x7) < 0) != b) wq (by rw [qv]; omega)
  rw [qv] at SG
  obtain ⟨c3, c2, c1, c0, HT, -⟩ := tellV_ex (shareZ (sl x0 x1 x2 x3 x4 x5 x6 x7) (val64 [y0, y1, y2, y3, y4, y5, y6, y7]) b)
  have HV : Hid (tellV (shareZ (sl x0 x1 x2 x3 x4 x5 x6 x7) (val64 [y0, y1, y2, y3, y4, y5, y6, y7]) b) = .tuple #[.agg #[.int .u64 c3, .int .u64 c2, .int .u64 c1, .int .u64 c0], .bool (told (shareZ (sl x0 x1 x2 x3 x4 x5 x6 x7) (val64 [y0, y1, y2, y3, y4, y5, y6, y7]) b))]) := HT
  obtain ⟨t, ht⟩ : ∃ t, told (shareZ (sl x0 x1 x2 x3 x4 x5 x6 x7) (val64 [y0, y1, y2, y3, y4, y5, y6, y7]) b) = t := ⟨_, rfl⟩
  rw [ht] at HT HV
  have HZ : Hid ((if (decide ((sl x0 x1 x2 x3 x4 x5 x6 x7) < 0) != b) = true then -(((sl x0 x1 x2 x3 x4 x5 x6 x7).natAbs : Int) / (val64 [y0, y1, y2, y3, y4, y5, y6, y7])) else (((sl x0 x1 x2 x3 x4 x5 x6 x7).natAbs : Int) / (val64 [y0, y1, y2, y3, y4, y5, y6, y7]))) = shareZ (sl x0 x1 x2 x3 x4 x5 x6 x7) (val64 [y0, y1, y2, y3, y4, y5, y6, y7]) b) := rfl
  clear ht hX hX2 hq0 hq1 hr0 hr1 hy1 uv qv rv
  go_enter Try.func89, Try.ntmps89
  go_upto_region 1 with fail
  generalize (((w.alloc (.cells #[.int .u64 x0, .int .u64 x1, .int .u64 x2, .int .u64 x3, .int .u64 x4, .int .u64 x5, .int .u64 x6, .int .u64 x7] 77)).alloc (.cells #[.int .u64 y0, .int .u64 y1, .int .u64 y2, .int .u64 y3, .int .u64 y4, .int .u64 y5, .int .u64 y6, .int .u64 y7] 77)).alloc (.cells #[.int .u64 0, .int .u64 0, .int .u64 0, .int .u64 0] 31)) = W at *
  have hlw := (T0.b 2 rfl).lt
  go_cut [8, 9] (fun p q wx => CutX w wx [[.int .u64 x0, .int .u64 x1, .int .u64 x2, .int .u64 x3, .int .u64 x4, .int .u64 x5, .int .u64 x6, .int .u64 x7], [.int .u64 y0, .int .u64 y1, .int .u64 y2, .int .u64 y3, .int .u64 y4, .int .u64 y5, .int .u64 y6, .int .u64 y7], [.int .u64 0, .int .u64 0, .int .u64 0, .int .u64 0]] [.int .u64 q0, .int .u64 q1, .int .u64 q2, .int .u64 q3, .int .u64 q4, .int .u64 q5, .int .u64 q6, .int .u64 q7] [.int .u64 r0, .int .u64 r1, .int .u64 r2, .int .u64 r3, .int .u64 r4, .int .u64 r5, .int .u64 r6, .int .u64 r7] p q)
  case first =>
    go_region_held3 (fun w' => w'.cell? ⟨w.heap.size, 0, none⟩ = some (.int .u64 x0) ∧ w'.cell? ⟨w.heap.size, 1, none⟩ = some (.int .u64 x1) ∧ w'.cell? ⟨w.heap.size, 2, none⟩ = some (.int .u64 x2) ∧ w'.cell? ⟨w.heap.size, 3, none⟩ = some (.int .u64 x3) ∧ w'.cell? ⟨w.heap.size, 4, none⟩ = some (.int .u64 x4) ∧ w'.cell? ⟨w.heap.size, 5, none⟩ = some (.int .u64 x5) ∧ w'.cell? ⟨w.heap.size, 6, none⟩ = some (.int .u64 x6) ∧ w'.cell? ⟨w.heap.size, 7, none⟩ = some (.int .u64 x7) ∧ w'.cell? ⟨w.heap.size + 1, 0, none⟩ = some (.int .u64 y0) ∧ w'.cell? ⟨w.heap.size + 1, 1, none⟩ = some (.int .u64 y1) ∧ w'.cell? ⟨w.heap.size + 1, 2, none⟩ = some (.int .u64 y2) ∧ w'.cell? ⟨w.heap.size + 1, 3, none⟩ = some (.int .u64 y3) ∧ w'.cell? ⟨w.heap.size + 1, 4, none⟩ = some (.int .u64 y4) ∧ w'.cell? ⟨w.heap.size + 1, 5, none⟩ = some (.int .u64 y5) ∧ w'.cell? ⟨w.heap.size + 1, 6, none⟩ = some (.int .u64 y6) ∧ w'.cell? ⟨w.heap.size + 1, 7, none⟩ = some (.int .u64 y7)) ((refine sh_cells (cs := [[.int .u64 0, .int .u64 0, .int .u64 0, .int .u64 0]]) ?_ <;> repeat (first | (with_reducible exact T0) | (with_reducible refine ArgsB.drew ?_) | (with_reducible refine ArgsB.alloc ?_ _) | (with_reducible refine ArgsB.set8g ?_ (by simp; omega) _ _ _ _ _ _ _ _))))
      (first
        | (go_at_call 88; refine (SA _).mono ?_; rintro e w1 ⟨rfl, hB⟩; (first | (have T1 : ArgsB w w1 [[.int .u64 x0, .int .u64 x1, .int .u64 x2, .int .u64 x3, .int .u64 x4, .int .u64 x5, .int .u64 x6, .int .u64 x7], [.int .u64 y0, .int .u64 y1, .int .u64 y2, .int .u64 y3, .int .u64 y4, .int .u64 y5, .int .u64 y6, .int .u64 y7], [.int .u64 0, .int .u64 0, .int .u64 0, .int .u64 0]] := (by with_reducible exact T0.step hB); have tltw1 := (T0.b 2 rfl).lt; (try (replace G0 := G0.step hB; have j0c := G0.c 0 rfl; have j0f := G0.f 0 rfl; have j1c := G0.c 1 rfl; have j1f := G0.f 1 rfl; have j2c := G0.c 2 rfl; have j2f := G0.f 2 rfl; have j3c := G0.c 3 rfl; have j3f := G0.f 3 rfl; have j4c := G0.c 4 rfl; have j4f := G0.f 4 rfl; have j5c := G0.c 5 rfl; have j5f := G0.f 5 rfl; have j6c := G0.c 6 rfl; have j6f := G0.f 6 rfl; have j7c := G0.c 7 rfl; have j7f := G0.f 7 rfl; have jlt := G0.lt)); (try (replace G1 := G1.step hB; have k0c := G1.c 0 rfl; have k0f := G1.f 0 rfl; have k1c := G1.c 1 rfl; have k1f := G1.f 1 rfl; have k2c := G1.c 2 rfl; have k2f := G1.f 2 rfl; have k3c := G1.c 3 rfl; have k3f := G1.f 3 rfl; have k4c := G1.c 4 rfl; have k4f := G1.f 4 rfl; have k5c := G1.c 5 rfl; have k5f := G1.f 5 rfl; have k6c := G1.c 6 rfl; have k6f := G1.f 6 rfl; have k7c := G1.c 7 rfl; have k7f := G1.f 7 rfl; have klt := G1.lt))) | (have T1 : ArgsB w w1 [[.int .u64 x0, .int .u64 x1, .int .u64 x2, .int .u64 x3, .int .u64 x4, .int .u64 x5, .int .u64 x6, .int .u64 x7], [.int .u64 y0, .int .u64 y1, .int .u64 y2, .int .u64 y3, .int .u64 y4, .int .u64 y5, .int .u64 y6, .int .u64 y7], [.int .u64 0, .int .u64 0, .int .u64 0, .int .u64 0]] := (by with_reducible exact T0.drew.step hB); have tltw1 := (T0.b 2 rfl).lt; (try (replace G0 := G0.drew.step hB; have j0c := G0.c 0 rfl; have j0f := G0.f 0 rfl; have j1c := G0.c 1 rfl; have j1f := G0.f 1 rfl; have j2c := G0.c 2 rfl; have j2f := G0.f 2 rfl; have j3c := G0.c 3 rfl; have j3f := G0.f 3 rfl; have j4c := G0.c 4 rfl; have j4f := G0.f 4 rfl; have j5c := G0.c 5 rfl; have j5f := G0.f 5 rfl; have j6c := G0.c 6 rfl; have j6f := G0.f 6 rfl; have j7c := G0.c 7 rfl; have j7f := G0.f 7 rfl; have jlt := G0.lt)); (try (replace G1 := G1.drew.step hB; have k0c := G1.c 0 rfl; have k0f := G1.f 0 rfl; have k1c := G1.c 1 rfl; have k1f := G1.f 1 rfl; have k2c := G1.c 2 rfl; have k2f := G1.f 2 rfl; have k3c := G1.c 3 rfl; have k3f := G1.f 3 rfl; have k4c := G1.c 4 rfl; have k4f := G1.f 4 rfl; have k5c := G1.c 5 rfl; have k5f := G1.f 5 rfl; have k6c := G1.c 6 rfl; have k6f := G1.f 6 rfl; have k7c := G1.c 7 rfl; have k7f := G1.f 7 rfl; have klt := G1.lt))) | (have T1 : ArgsB w w1 [[.int .u64 x0, .int .u64 x1, .int .u64 x2, .int .u64 x3, .int .u64 x4, .int .u64 x5, .int .u64 x6, .int .u64 x7], [.int .u64 y0, .int .u64 y1, .int .u64 y2, .int .u64 y3, .int .u64 y4, .int .u64 y5, .int .u64 y6, .int .u64 y7], [.int .u64 0, .int .u64 0, .int .u64 0, .int .u64 0]] := (by with_reducible exact (T0.alloc _).step hB); have tltw1 := (T0.b 2 rfl).lt; (first | (have G1 := (Blk.new _ [.int .u64 0, .int .u64 0, .int .u64 0, .int .u64 0, .int .u64 0, .int .u64 0, .int .u64 0, .int .u64 0] _ rfl).step hB; have hgg := G0.lt; replace G0 := (G0.alloc _).step hB; have j0c := G0.c 0 rfl; have j0f := G0.f 0 rfl; have j1c := G0.c 1 rfl; have j1f := G0.f 1 rfl; have j2c := G0.c 2 rfl; have j2f := G0.f 2 rfl; have j3c := G0.c 3 rfl; have j3f := G0.f 3 rfl; have j4c := G0.c 4 rfl; have j4f := G0.f 4 rfl; have j5c := G0.c 5 rfl; have j5f := G0.f 5 rfl; have j6c := G0.c 6 rfl; have j6f := G0.f 6 rfl; have j7c := G0.c 7 rfl; have j7f := G0.f 7 rfl; have jlt := G0.lt; have k0c := G1.c 0 rfl; have k0f := G1.f 0 rfl; have k1c := G1.c 1 rfl; have k1f := G1.f 1 rfl; have k2c := G1.c 2 rfl; have k2f := G1.f 2 rfl; have k3c := G1.c 3 rfl; have k3f := G1.f 3 rfl; have k4c := G1.c 4 rfl; have k4f := G1.f 4 rfl; have k5c := G1.c 5 rfl; have k5f := G1.f 5 rfl; have k6c := G1.c 6 rfl; have k6f := G1.f 6 rfl; have k7c := G1.c 7 rfl; have k7f := G1.f 7 rfl; have klt := G1.lt) | (have G0 := (Blk.new _ [.int .u64 0, .int .u64 0, .int .u64 0, .int .u64 0, .int .u64 0, .int .u64 0, .int .u64 0, .int .u64 0] _ rfl).step hB; have j0c := G0.c 0 rfl; have j0f := G0.f 0 rfl; have j1c := G0.c 1 rfl; have j1f := G0.f 1 rfl; have j2c := G0.c 2 rfl; have j2f := G0.f 2 rfl; have j3c := G0.c 3 rfl; have j3f := G0.f 3 rfl; have j4c := G0.c 4 rfl; have j4f := G0.f 4 rfl; have j5c := G0.c 5 rfl; have j5f := G0.f 5 rfl; have j6c := G0.c 6 rfl; have j6f := G0.f 6 rfl; have j7c := G0.c 7 rfl; have j7f := G0.f 7 rfl; have jlt := G0.lt))) | (have T1 : ArgsB w w1 [[.int .u64 x0, .int .u64 x1, .int .u64 x2, .int .u64 x3, .int .u64 x4, .int .u64 x5, .int .u64 x6, .int .u64 x7], [.int .u64 y0, .int .u64 y1, .int .u64 y2, .int .u64 y3, .int .u64 y4, .int .u64 y5, .int .u64 y6, .int .u64 y7], [.int .u64 0, .int .u64 0, .int .u64 0, .int .u64 0]] := (by with_reducible exact (T0.alloc _).drew.step hB); have tltw1 := (T0.b 2 rfl).lt; (first | (have G1 := (Blk.new _ [.int .u64 0, .int .u64 0, .int .u64 0, .int .u64 0, .int .u64 0, .int .u64 0, .int .u64 0, .int .u64 0] _ rfl).drew.step hB; have hgg := G0.lt; replace G0 := (G0.alloc _).drew.step hB; have j0c := G0.c 0 rfl; have j0f := G0.f 0 rfl; have j1c := G0.c 1 rfl; have j1f := G0.f 1 rfl; have j2c := G0.c 2 rfl; have j2f := G0.f 2 rfl; have j3c := G0.c 3 rfl; have j3f := G0.f 3 rfl; have j4c := G0.c 4 rfl; have j4f := G0.f 4 rfl; have j5c := G0.c 5 rfl; have j5f := G0.f 5 rfl; have j6c := G0.c 6 rfl; have j6f := G0.f 6 rfl; have j7c := G0.c 7 rfl; have j7f := G0.f 7 rfl; have jlt := G0.lt; have k0c := G1.c 0 rfl; have k0f := G1.f 0 rfl; have k1c := G1.c 1 rfl; have k1f := G1.f 1 rfl; have k2c := G1.c 2 rfl; have k2f := G1.f 2 rfl; have k3c := G1.c 3 rfl; have k3f := G1.f 3 rfl; have k4c := G1.c 4 rfl; have k4f := G1.f 4 rfl; have k5c := G1.c 5 rfl; have k5f := G1.f 5 rfl; have k6c := G1.c 6 rfl; have k6f := G1.f 6 rfl; have k7c := G1.c 7 rfl; have k7f := G1.f 7 rfl; have klt := G1.lt) | (have G0 := (Blk.new _ [.int .u64 0, .int .u64 0, .int .u64 0, .int .u64 0, .int .u64 0, .int .u64 0, .int .u64 0, .int .u64 0] _ rfl).drew.step hB; have j0c := G0.c 0 rfl; have j0f := G0.f 0 rfl; have j1c := G0.c 1 rfl; have j1f := G0.f 1 rfl; have j2c := G0.c 2 rfl; have j2f := G0.f 2 rfl; have j3c := G0.c 3 rfl; have j3f := G0.f 3 rfl; have j4c := G0.c 4 rfl; have j4f := G0.f 4 rfl; have j5c := G0.c 5 rfl; have j5f := G0.f 5 rfl; have j6c := G0.c 6 rfl; have j6f := G0.f 6 rfl; have j7c := G0.c 7 rfl; have j7f := G0.f 7 rfl; have jlt := G0.lt))) | (have T1 : ArgsB w w1 [[.int .u64 x0, .int .u64 x1, .int .u64 x2, .int .u64 x3, .int .u64 x4, .int .u64 x5, .int .u64 x6, .int .u64 x7], [.int .u64 y0, .int .u64 y1, .int .u64 y2, .int .u64 y3, .int .u64 y4, .int .u64 y5, .int .u64 y6, .int .u64 y7], [.int .u64 0, .int .u64 0, .int .u64 0, .int .u64 0]] := (by with_reducible exact ((T0.alloc _).alloc _).step hB); have tltw1 := (T0.b 2 rfl).lt; have G0 := ((Blk.new _ [.int .u64 0, .int .u64 0, .int .u64 0, .int .u64 0, .int .u64 0, .int .u64 0, .int .u64 0, .int .u64 0] _ rfl).alloc _).step hB; have G1 := (Blk.newS _ _ [.int .u64 0, .int .u64 0, .int .u64 0, .int .u64 0, .int .u64 0, .int .u64 0, .int .u64 0, .int .u64 0] _).step hB; have j0c := G0.c 0 rfl; have j0f := G0.f 0 rfl; have j1c := G0.c 1 rfl; have j1f := G0.f 1 rfl; have j2c := G0.c 2 rfl; have j2f := G0.f 2 rfl; have j3c := G0.c 3 rfl; have j3f := G0.f 3 rfl; have j4c := G0.c 4 rfl; have j4f := G0.f 4 rfl; have j5c := G0.c 5 rfl; have j5f := G0.f 5 rfl; have j6c := G0.c 6 rfl; have j6f := G0.f 6 rfl; have j7c := G0.c 7 rfl; have j7f := G0.f 7 rfl; have jlt := G0.lt; have k0c := G1.c 0 rfl; have k0f := G1.f 0 rfl; have k1c := G1.c 1 rfl; have k1f := G1.f 1 rfl; have k2c := G1.c 2 rfl; have k2f := G1.f 2 rfl; have k3c := G1.c 3 rfl; have k3f := G1.f 3 rfl; have k4c := G1.c 4 rfl; have k4f := G1.f 4 rfl; have k5c := G1.c 5 rfl; have k5f := G1.f 5 rfl; have k6c := G1.c 6 rfl; have k6f := G1.f 6 rfl; have k7c := G1.c 7 rfl; have k7f := G1.f 7 rfl; have klt := G1.lt) | (have T1 : ArgsB w w1 [[.int .u64 x0, .int .u64 x1, .int .u64 x2, .int .u64 x3, .int .u64 x4, .int .u64 x5, .int .u64 x6, .int .u64 x7], [.int .u64 y0, .int .u64 y1, .int .u64 y2, .int .u64 y3, .int .u64 y4, .int .u64 y5, .int .u64 y6, .int .u64 y7], [.int .u64 0, .int .u64 0, .int .u64 0, .int .u64 0]] := (by with_reducible exact ((T0.alloc _).alloc _).drew.step hB); have tltw1 := (T0.b 2 rfl).lt; have G0 := ((Blk.new _ [.int .u64 0, .int .u64 0, .int .u64 0, .int .u64 0, .int .u64 0, .int .u64 0, .int .u64 0, .int .u64 0] _ rfl).alloc _).drew.step hB; have G1 := (Blk.newS _ _ [.int .u64 0, .int .u64 0, .int .u64 0, .int .u64 0, .int .u64 0, .int .u64 0, .int .u64 0, .int .u64 0] _).drew.step hB; have j0c := G0.c 0 rfl; have j0f := G0.f 0 rfl; have j1c := G0.c 1 rfl; have j1f := G0.f 1 rfl; have j2c := G0.c 2 rfl; have j2f := G0.f 2 rfl; have j3c := G0.c 3 rfl; have j3f := G0.f 3 rfl; have j4c := G0.c 4 rfl; have j4f := G0.f 4 rfl; have j5c := G0.c 5 rfl; have j5f := G0.f 5 rfl; have j6c := G0.c 6 rfl; have j6f := G0.f 6 rfl; have j7c := G0.c 7 rfl; have j7f := G0.f 7 rfl; have jlt := G0.lt; have k0c := G1.c 0 rfl; have k0f := G1.f 0 rfl; have k1c := G1.c 1 rfl; have k1f := G1.f 1 rfl; have k2c := G1.c 2 rfl; have k2f := G1.f 2 rfl; have k3c := G1.c 3 rfl; have k3f := G1.f 3 rfl; have k4c := G1.c 4 rfl; have k4f := G1.f 4 rfl; have k5c := G1.c 5 rfl; have k5f := G1.f 5 rfl; have k6c := G1.c 6 rfl; have k6f := G1.f 6 rfl; have k7c := G1.c 7 rfl; have k7f := G1.f 7 rfl; have klt := G1.lt)); clear T0; have T0 := T1; clear T1; clear hB)
        | (go_at_call 99; refine (DV _).mono ?_; rintro e w2 ⟨rfl, hB⟩; (first | (have T1 : ArgsB w w2 [[.int .u64 x0, .int .u64 x1, .int .u64 x2, .int .u64 x3, .int .u64 x4, .int .u64 x5, .int .u64 x6, .int .u64 x7], [.int .u64 y0, .int .u64 y1, .int .u64 y2, .int .u64 y3, .int .u64 y4, .int .u64 y5, .int .u64 y6, .int .u64 y7], [.int .u64 0, .int .u64 0, .int .u64 0, .int .u64 0]] := (by with_reducible exact T0.step hB); have tltw2 := (T0.b 2 rfl).lt; (try (replace G0 := G0.step hB; have j0c := G0.c 0 rfl; have j0f := G0.f 0 rfl; have j1c := G0.c 1 rfl; have j1f := G0.f 1 rfl; have j2c := G0.c 2 rfl; have j2f := G0.f 2 rfl; have j3c := G0.c 3 rfl; have j3f := G0.f 3 rfl; have j4c := G0.c 4 rfl; have j4f := G0.f 4 rfl; have j5c := G0.c 5 rfl; have j5f := G0.f 5 rfl; have j6c := G0.c 6 rfl; have j6f := G0.f 6 rfl; have j7c := G0.c 7 rfl; have j7f := G0.f 7 rfl; have jlt := G0.lt)); (try (replace G1 := G1.step hB; have k0c := G1.c 0 rfl; have k0f := G1.f 0 rfl; have k1c := G1.c 1 rfl; have k1f := G1.f 1 rfl; have k2c := G1.c 2 rfl; have k2f := G1.f 2 rfl; have k3c := G1.c 3 rfl; have k3f := G1.f 3 rfl; have k4c := G1.c 4 rfl; have k4f := G1.f 4 rfl; have k5c := G1.c 5 rfl; have k5f := G1.f 5 rfl; have k6c := G1.c 6 rfl; have k6f := G1.f 6 rfl; have k7c := G1.c 7 rfl; have k7f := G1.f 7 rfl; have klt := G1.lt))) | (have T1 : ArgsB w w2 [[.int .u64 x0, .int .u64 x1, .int .u64 x2, .int .u64 x3, .int .u64 x4, .int .u64 x5, .int .u64 x6, .int .u64 x7], [.int .u64 y0, .int .u64 y1, .int .u64 y2, .int .u64 y3, .int .u64 y4, .int .u64 y5, .int .u64 y6, .int .u64 y7], [.int .u64 0, .int .u64 0, .int .u64 0, .int .u64 0]] := (by with_reducible exact T0.drew.step hB); have tltw2 := (T0.b 2 rfl).lt; (try (replace G0 := G0.drew.step hB; have j0c := G0.c 0 rfl; have j0f := G0.f 0 rfl; have j1c := G0.c 1 rfl; have j1f := G0.f 1 rfl; have j2c := G0.c 2 rfl; have j2f := G0.f 2 rfl; have j3c := G0.c 3 rfl; have j3f := G0.f 3 rfl; have j4c := G0.c 4 rfl; have j4f := G0.f 4 rfl; have j5c := G0.c 5 rfl; have j5f := G0.f 5 rfl; have j6c := G0.c 6 rfl; have j6f := G0.f 6 rfl; have j7c := G0.c 7 rfl; have j7f := G0.f 7 rfl; have jlt := G0.lt)); (try (replace G1 := G1.drew.step hB; have k0c := G1.c 0 rfl; have k0f := G1.f 0 rfl; have k1c := G1.c 1 rfl; have k1f := G1.f 1 rfl; have k2c := G1.c 2 rfl; have k2f := G1.f 2 rfl; have k3c := G1.c 3 rfl; have k3f := G1.f 3 rfl; have k4c := G1.c 4 rfl; have k4f := G1.f 4 rfl; have k5c := G1.c 5 rfl; have k5f := G1.f 5 rfl; have k6c := G1.c 6 rfl; have k6f := G1.f 6 rfl; have k7c := G1.c 7 rfl; have k7f := G1.f 7 rfl; have klt := G1.lt))) | (have T1 : ArgsB w w2 [[.int .u64 x0, .int .u64 x1, .int .u64 x2, .int .u64 x3, .int .u64 x4, .int .u64 x5, .int .u64 x6, .int .u64 x7], [.int .u64 y0, .int .u64 y1, .int .u64 y2, .int .u64 y3, .int .u64 y4, .int .u64 y5, .int .u64 y6, .int .u64 y7], [.int .u64 0, .int .u64 0, .int .u64 0, .int .u64 0]] := (by with_reducible exact (T0.alloc _).step hB); have tltw2 := (T0.b 2 rfl).lt; (first | (have G1 := (Blk.new _ [.int .u64 0, .int .u64 0, .int .u64 0, .int .u64 0, .int .u64 0, .int .u64 0, .int .u64 0, .int .u64 0] _ rfl).step hB; have hgg := G0.lt; replace G0 := (G0.alloc _).step hB; have j0c := G0.c 0 rfl; have j0f := G0.f 0 rfl; have j1c := G0.c 1 rfl; have j1f := G0.f 1 rfl; have j2c := G0.c 2 rfl; have j2f := G0.f 2 rfl; have j3c := G0.c 3 rfl; have j3f := G0.f 3 rfl; have j4c := G0.c 4 rfl; have j4f := G0.f 4 rfl; have j5c := G0.c 5 rfl; have j5f := G0.f 5 rfl; have j6c := G0.c 6 rfl; have j6f := G0.f 6 rfl; have j7c := G0.c 7 rfl; have j7f := G0.f 7 rfl; have jlt := G0.lt; have k0c := G1.c 0 rfl; have k0f := G1.f 0 rfl; have k1c := G1.c 1 rfl; have k1f := G1.f 1 rfl; have k2c := G1.c 2 rfl; have k2f := G1.f 2 rfl; have k3c := G1.c 3 rfl; have k3f := G1.f 3 rfl; have k4c := G1.c 4 rfl; have k4f := G1.f 4 rfl; have k5c := G1.c 5 rfl; have k5f := G1.f 5 rfl; have k6c := G1.c 6 rfl; have k6f := G1.f 6 rfl; have k7c := G1.c 7 rfl; have k7f := G1.f 7 rfl; have klt := G1.lt) | (have G0 := (Blk.new _ [.int .u64 0, .int .u64 0, .int .u64 0, .int .u64 0, .int .u64 0, .int .u64 0, .int .u64 0, .int .u64 0] _ rfl).step hB; have j0c := G0.c 0 rfl; have j0f := G0.f 0 rfl; have j1c := G0.c 1 rfl; have j1f := G0.f 1 rfl; have j2c := G0.c 2 rfl; have j2f := G0.f 2 rfl; have j3c := G0.c 3 rfl; have j3f := G0.f 3 rfl; have j4c := G0.c 4 rfl; have j4f := G0.f 4 rfl; have j5c := G0.c 5 rfl; have j5f := G0.f 5 rfl; have j6c := G0.c 6 rfl; have j6f := G0.f 6 rfl; have j7c := G0.c 7 rfl; have j7f := G0.f 7 rfl; have jlt := G0.lt))) | (have T1 : ArgsB w w2 [[.int .u64 x0, .int .u64 x1, .int .u64 x2, .int .u64 x3, .int .u64 x4, .int .u64 x5, .int .u64 x6, .int .u64 x7], [.int .u64 y0, .int .u64 y1, .int .u64 y2, .int .u64 y3, .int .u64 y4, .int .u64 y5, .int .u64 y6, .int .u64 y7], [.int .u64 0, .int .u64 0, .int .u64 0, .int .u64 0]] := (by with_reducible exact (T0.alloc _).drew.step hB); have tltw2 := (T0.b 2 rfl).lt; (first | (have G1 := (Blk.new _ [.int .u64 0, .int .u64 0, .int .u64 0, .int .u64 0, .int .u64 0, .int .u64 0, .int .u64 0, .int .u64 0] _ rfl).drew.step hB; have hgg := G0.lt; replace G0 := (G0.alloc _).drew.step hB; have j0c := G0.c 0 rfl; have j0f := G0.f 0 rfl; have j1c := G0.c 1 rfl; have j1f := G0.f 1 rfl; have j2c := G0.c 2 rfl; have j2f := G0.f 2 rfl; have j3c := G0.c 3 rfl; have j3f := G0.f 3 rfl; have j4c := G0.c 4 rfl; have j4f := G0.f 4 rfl; have j5c := G0.c 5 rfl; have j5f := G0.f 5 rfl; have j6c := G0.c 6 rfl; have j6f := G0.f 6 rfl; have j7c := G0.c 7 rfl; have j7f := G0.f 7 rfl; have jlt := G0.lt; have k0c := G1.c 0 rfl; have k0f := G1.f 0 rfl; have k1c := G1.c 1 rfl; have k1f := G1.f 1 rfl; have k2c := G1.c 2 rfl; have k2f := G1.f 2 rfl; have k3c := G1.c 3 rfl; have k3f := G1.f 3 rfl; have k4c := G1.c 4 rfl; have k4f := G1.f 4 rfl; have k5c := G1.c 5 rfl; have k5f := G1.f 5 rfl; have k6c := G1.c 6 rfl; have k6f := G1.f 6 rfl; have k7c := G1.c 7 rfl; have k7f := G1.f 7 rfl; have klt := G1.lt) | (have G0 := (Blk.new _ [.int .u64 0, .int .u64 0, .int .u64 0, .int .u64 0, .int .u64 0, .int .u64 0, .int .u64 0, .int .u64 0] _ rfl).drew.step hB; have j0c := G0.c 0 rfl; have j0f := G0.f 0 rfl; have j1c := G0.c 1 rfl; have j1f := G0.f 1 rfl; have j2c := G0.c 2 rfl; have j2f := G0.f 2 rfl; have j3c := G0.c 3 rfl; have j3f := G0.f 3 rfl; have j4c := G0.c 4 rfl; have j4f := G0.f 4 rfl; have j5c := G0.c 5 rfl; have j5f := G0.f 5 rfl; have j6c := G0.c 6 rfl; have j6f := G0.f 6 rfl; have j7c := G0.c 7 rfl; have j7f := G0.f 7 rfl; have jlt := G0.lt))) | (have T1 : ArgsB w w2 [[.int .u64 x0, .int .u64 x1, .int .u64 x2, .int .u64 x3, .int .u64 x4, .int .u64 x5, .int .u64 x6, .int .u64 x7], [.int .u64 y0, .int .u64 y1, .int .u64 y2, .int .u64 y3, .int .u64 y4, .int .u64 y5, .int .u64 y6, .int .u64 y7], [.int .u64 0, .int .u64 0, .int .u64 0, .int .u64 0]] := (by with_reducible exact ((T0.alloc _).alloc _).step hB); have tltw2 := (T0.b 2 rfl).lt; have G0 := ((Blk.new _ [.int .u64 0, .int .u64 0, .int .u64 0, .int .u64 0, .int .u64 0, .int .u64 0, .int .u64 0, .int .u64 0] _ rfl).alloc _).step hB; have G1 := (Blk.newS _ _ [.int .u64 0, .int .u64 0, .int .u64 0, .int .u64 0, .int .u64 0, .int .u64 0, .int .u64 0, .int .u64 0] _).step hB; have j0c := G0.c 0 rfl; have j0f := G0.f 0 rfl; have j1c := G0.c 1 rfl; have j1f := G0.f 1 rfl; have j2c := G0.c 2 rfl; have j2f := G0.f 2 rfl; have j3c := G0.c 3 rfl; have j3f := G0.f 3 rfl; have j4c := G0.c 4 rfl; have j4f := G0.f 4 rfl; have j5c := G0.c 5 rfl; have j5f := G0.f 5 rfl; have j6c := G0.c 6 rfl; have j6f := G0.f 6 rfl; have j7c := G0.c 7 rfl; have j7f := G0.f 7 rfl; have jlt := G0.lt; have k0c := G1.c 0 rfl; have k0f := G1.f 0 rfl; have k1c := G1.c 1 rfl; have k1f := G1.f 1 rfl; have k2c := G1.c 2 rfl; have k2f := G1.f 2 rfl; have k3c := G1.c 3 rfl; have k3f := G1.f 3 rfl; have k4c := G1.c 4 rfl; have k4f := G1.f 4 rfl; have k5c := G1.c 5 rfl; have k5f := G1.f 5 rfl; have k6c := G1.c 6 rfl; have k6f := G1.f 6 rfl; have k7c := G1.c 7 rfl; have k7f := G1.f 7 rfl; have klt := G1.lt) | (have T1 : ArgsB w w2 [[.int .u64 x0, .int .u64 x1, .int .u64 x2, .int .u64 x3, .int .u64 x4, .int .u64 x5, .int .u64 x6, .int .u64 x7], [.int .u64 y0, .int .u64 y1, .int .u64 y2, .int .u64 y3, .int .u64 y4, .int .u64 y5, .int .u64 y6, .int .u64 y7], [.int .u64 0, .int .u64 0, .int .u64 0, .int .u64 0]] := (by with_reducible exact ((T0.alloc _).alloc _).drew.step hB); have tltw2 := (T0.b 2 rfl).lt; have G0 := ((Blk.new _ [.int .u64 0, .int .u64 0, .int .u64 0, .int .u64 0, .int .u64 0, .int .u64 0, .int .u64 0, .int .u64 0] _ rfl).alloc _).drew.step hB; have G1 := (Blk.newS _ _ [.int .u64 0, .int .u64 0, .int .u64 0, .int .u64 0, .int .u64 0, .int .u64 0, .int .u64 0, .int .u64 0] _).drew.step hB; have j0c := G0.c 0 rfl; have j0f := G0.f 0 rfl; have j1c := G0.c 1 rfl; have j1f := G0.f 1 rfl; have j2c := G0.c 2 rfl; have j2f := G0.f 2 rfl; have j3c := G0.c 3 rfl; have j3f := G0.f 3 rfl; have j4c := G0.c 4 rfl; have j4f := G0.f 4 rfl; have j5c := G0.c 5 rfl; have j5f := G0.f 5 rfl; have j6c := G0.c 6 rfl; have j6f := G0.f 6 rfl; have j7c := G0.c 7 rfl; have j7f := G0.f 7 rfl; have jlt := G0.lt; have k0c := G1.c 0 rfl; have k0f := G1.f 0 rfl; have k1c := G1.c 1 rfl; have k1f := G1.f 1 rfl; have k2c := G1.c 2 rfl; have k2f := G1.f 2 rfl; have k3c := G1.c 3 rfl; have k3f := G1.f 3 rfl; have k4c := G1.c 4 rfl; have k4f := G1.f 4 rfl; have k5c := G1.c 5 rfl; have k5f := G1.f 5 rfl; have k6c := G1.c 6 rfl; have k6f := G1.f 6 rfl; have k7c := G1.c 7 rfl; have k7f := G1.f 7 rfl; have klt := G1.lt)); clear T0; have T0 := T1; clear T1; clear hB))
    all_goals go_wp2_with fail
    all_goals go_meet
    all_goals have hl : w.heap.size + ([[.int .u64 x0, .int .u64 x1, .int .u64 x2, .int .u64 x3, .int .u64 x4, .int .u64 x5, .int .u64 x6, .int .u64 x7], [.int .u64 y0, .int .u64 y1, .int .u64 y2, .int .u64 y3, .int .u64 y4, .int .u64 y5, .int .u64 y6, .int .u64 y7], [.int .u64 0, .int .u64 0, .int .u64 0, .int .u64 0]] : List (List Value)).length ≤ w2.heap.size := (T0.b 2 rfl).lt
    all_goals first | (with_reducible exact cutX_nn T0 hl) | (with_reducible exact cutX_nn' T0 hl) | (with_reducible exact cutX_sn T0 G0 (by simp; omega) hl) | (with_reducible exact cutX_sn' T0 G0 (by simp; omega) hl) | (with_reducible exact cutX_ss T0 G0 G1 (by simp; omega) (by simp; omega) (by omega)) | (with_reducible exact cutX_ss T0 G1 G0 (by simp; omega) (by simp; omega) (by omega))
  case rest =>
    clear T0 SA DV hlw
    obtain ⟨gq, gr, hp, hq, hne, hgq, hgr, T3, GQ, GR⟩ := hcut
    have R0 : Blk _ (w.heap.size + 1 + 1) _ := T3.b 2 rfl
    have T0 := T3.drop3
    have hgq3 : w.heap.size + 3 ≤ gq := hgq
    clear T3 hgq hgr
    subst hp; subst hq
    clear GR
    have hlw := (T0.b 1 rfl).lt
    have hlr := R0.lt
    have hlq := GQ.lt
    go_upto_region 2 with fail
    go_region_held3 (fun w' => w'.cell? ⟨w.heap.size, 0, none⟩ = some (.int .u64 x0) ∧ w'.cell? ⟨w.heap.size, 1, none⟩ = some (.int .u64 x1) ∧ w'.cell? ⟨w.heap.size, 2, none⟩ = some (.int .u64 x2) ∧ w'.cell? ⟨w.heap.size, 3, none⟩ = some (.int .u64 x3) ∧ w'.cell? ⟨w.heap.size, 4, none⟩ = some (.int .u64 x4) ∧ w'.cell? ⟨w.heap.size, 5, none⟩ = some (.int .u64 x5) ∧ w'.cell? ⟨w.heap.size, 6, none⟩ = some (.int .u64 x6) ∧ w'.cell? ⟨w.heap.size, 7, none⟩ = some (.int .u64 x7) ∧ w'.cell? ⟨gq, 0, none⟩ = some (.int .u64 q0) ∧ w'.cell? ⟨gq, 1, none⟩ = some (.int .u64 q1) ∧ w'.cell? ⟨gq, 2, none⟩ = some (.int .u64 q2) ∧ w'.cell? ⟨gq, 3, none⟩ = some (.int .u64 q3) ∧ w'.cell? ⟨gq, 4, none⟩ = some (.int .u64 q4) ∧ w'.cell? ⟨gq, 5, none⟩ = some (.int .u64 q5) ∧ w'.cell? ⟨gq, 6, none⟩ = some (.int .u64 q6) ∧ w'.cell? ⟨gq, 7, none⟩ = some (.int .u64 q7)) ((refine sh_cells2 (y0 := y0) ( y1 := y1) ( y2 := y2) ( y3 := y3) ( y4 := y4) ( y5 := y5) ( y6 := y6) ( y7 := y7) ?_ ?_ <;> repeat (first | (with_reducible exact T0) | (with_reducible exact GQ) | (with_reducible refine ArgsB.drew ?_) | (with_reducible refine Blk.drew ?_) | (with_reducible refine ArgsB.set4g ?_ (by simp <;> omega) _ _ _ _) | (with_reducible refine Blk.set4 ?_ (by omega)))))
      (first
        | (go_at_call 90; refine (NA _).mono ?_; rintro e w3 ⟨rfl, hB⟩; (first | (have T1 : ArgsB w w3 [[.int .u64 x0, .int .u64 x1, .int .u64 x2, .int .u64 x3, .int .u64 x4, .int .u64 x5, .int .u64 x6, .int .u64 x7], [.int .u64 y0, .int .u64 y1, .int .u64 y2, .int .u64 y3, .int .u64 y4, .int .u64 y5, .int .u64 y6, .int .u64 y7]] := (by with_reducible exact T0.step hB); have tltw3 := (T0.b 1 rfl).lt; have lR0w3 := R0.lt; replace R0 := R0.step hB; have lGQw3 := GQ.lt; replace GQ := GQ.step hB; skip) | (have T1 : ArgsB w w3 [[.int .u64 x0, .int .u64 x1, .int .u64 x2, .int .u64 x3, .int .u64 x4, .int .u64 x5, .int .u64 x6, .int .u64 x7], [.int .u64 y0, .int .u64 y1, .int .u64 y2, .int .u64 y3, .int .u64 y4, .int .u64 y5, .int .u64 y6, .int .u64 y7]] := (by with_reducible exact T0.drew.step hB); have tltw3 := (T0.b 1 rfl).lt; have lR0w3 := R0.lt; replace R0 := R0.drew.step hB; have lGQw3 := GQ.lt; replace GQ := GQ.drew.step hB; skip)); clear T0; have T0 := T1; clear T1; clear hB)
        | (go_at_call 64; refine (SG _).mono ?_; rintro e w4 ⟨n0, n1, n2, n3, n4, n5, n6, n7, rfl, wn, nv, hB⟩; (first | (have T1 : ArgsB w w4 [[.int .u64 x0, .int .u64 x1, .int .u64 x2, .int .u64 x3, .int .u64 x4, .int .u64 x5, .int .u64 x6, .int .u64 x7], [.int .u64 y0, .int .u64 y1, .int .u64 y2, .int .u64 y3, .int .u64 y4, .int .u64 y5, .int .u64 y6, .int .u64 y7]] := (by with_reducible exact T0.step hB); have tltw4 := (T0.b 1 rfl).lt; have lR0w4 := R0.lt; replace R0 := R0.step hB; have lGQw4 := GQ.lt; replace GQ := GQ.step hB; skip) | (have T1 : ArgsB w w4 [[.int .u64 x0, .int .u64 x1, .int .u64 x2, .int .u64 x3, .int .u64 x4, .int .u64 x5, .int .u64 x6, .int .u64 x7], [.int .u64 y0, .int .u64 y1, .int .u64 y2, .int .u64 y3, .int .u64 y4, .int .u64 y5, .int .u64 y6, .int .u64 y7]] := (by with_reducible exact T0.drew.step hB); have tltw4 := (T0.b 1 rfl).lt; have lR0w4 := R0.lt; replace R0 := R0.drew.step hB; have lGQw4 := GQ.lt; replace GQ := GQ.drew.step hB; skip)); clear T0; have T0 := T1; clear T1; clear hB)
        | (go_at_call 60; refine (tellWide_det n0 n1 n2 n3 n4 n5 n6 n7 wn _ (nv.trans HZ.out) _).mono ?_; rw [HT]; rintro e w5 ⟨rfl, hB⟩; (first | (have T1 : ArgsB w w5 [[.int .u64 x0, .int .u64 x1, .int .u64 x2, .int .u64 x3, .int .u64 x4, .int .u64 x5, .int .u64 x6, .int .u64 x7], [.int .u64 y0, .int .u64 y1, .int .u64 y2, .int .u64 y3, .int .u64 y4, .int .u64 y5, .int .u64 y6, .int .u64 y7]] := (by with_reducible exact T0.step hB); have tltw5 := (T0.b 1 rfl).lt; have lR0w5 := R0.lt; replace R0 := R0.step hB; have lGQw5 := GQ.lt; replace GQ := GQ.step hB; skip) | (have T1 : ArgsB w w5 [[.int .u64 x0, .int .u64 x1, .int .u64 x2, .int .u64 x3, .int .u64 x4, .int .u64 x5, .int .u64 x6, .int .u64 x7], [.int .u64 y0, .int .u64 y1, .int .u64 y2, .int .u64 y3, .int .u64 y4, .int .u64 y5, .int .u64 y6, .int .u64 y7]] := (by with_reducible exact T0.drew.step hB); have tltw5 := (T0.b 1 rfl).lt; have lR0w5 := R0.lt; replace R0 := R0.drew.step hB; have lGQw5 := GQ.lt; replace GQ := GQ.drew.step hB; skip)); clear T0; have T0 := T1; clear T1; have o0c := R0.c 0 rfl; have o0f := R0.f 0 rfl; have o1c := R0.c 1 rfl; have o1f := R0.f 1 rfl; have o2c := R0.c 2 rfl; have o2f := R0.f 2 rfl; have o3c := R0.c 3 rfl; have o3f := R0.f 3 rfl; have olt := R0.lt; clear hB))
    all_goals have HB := T0.below
    all_goals clear T0 GQ
    all_goals go_wp2
    all_goals refine bodyPost_ret (v := .tuple #[.agg #[.int .u64 c3, .int .u64 c2, .int .u64 c1, .int .u64 c0], .bool t]) (by simp [results, Try.results89, go_sem, o0c, o1c, o2c, o3c]) rfl ?_
    all_goals refine ⟨by rw [HV.out], ?_⟩
    all_goals (try (with_reducible refine Below.drew ?_))
    all_goals repeat' (refine Below.setCell ?_ (by simp; try omega) _)
    all_goals exact HB
end Go.Proofs.Ytjhmacpejfldoaa

/- A spot as a point: the walks of the model's numbers. -/
namespace Go.Proofs.Ytjhmacpejfldoaa
open Go.RowKit
theorem implOf_det (n : Int) (w : World) (h0 : -9223372036854775808 ≤ n) (h1 : n ≤ 9223372036854775807) : Calls Try.prog 34 #[.int .i64 n] w (VP (W4 n) w) := by
  refine (implOf_any n w h0 h1).mono ?_
  rintro e w' ⟨a3, a2, a1, a0, rfl, g3, g2, g1, g0, hs, hB⟩
  obtain ⟨rfl, rfl, rfl, rfl⟩ := wd_of g3 g2 g1 g0 hs
  exact ⟨rfl, hB⟩
theorem IsNum.setp {w : World} {s : Bool} {ao : Option Addr} {n cap : Nat} {ds : List Int} {z : Int} {k : Nat} (h : IsNum w s ao n cap ds z k) {p : Addr} {v : Value} (u : Value) (hp : w.cell? p = some v) (hv : ∀ x, v ≠ .int .u32 x) : IsNum (w.setCell p u) s ao n cap ds z k :=
  h.set hp hv u
end Go.Proofs.Ytjhmacpejfldoaa

/- A spot as a point: the walks of the model's point of numbers. -/
namespace Go.Proofs.Ytjhmacpejfldoaa
open Go.RowKit
theorem ret_bool {a b : Bool} (h : b = a) : Ending.returned (.bool a) = .returned (.bool b) := by rw [h]
def small (z : Int) : Bool := decide ((z.natAbs : Int) < 1208925819614629174706176)
end Go.Proofs.Ytjhmacpejfldoaa

/- Numbers by their own words: what is answered is known ahead. -/
namespace Go.Proofs.Ytjhmacpejfldoaa
open Go.RowKit
def lw0 (z : Int) : Int := z % 18446744073709551616
def lw1 (z : Int) : Int := z / 18446744073709551616 % 18446744073709551616
def lw2 (z : Int) : Int := z / 18446744073709551616 / 18446744073709551616 % 18446744073709551616
def lw3 (z : Int) : Int := z / 18446744073709551616 / 18446744073709551616 / 18446744073709551616 % 18446744073709551616
def lw4 (z : Int) : Int := z / 18446744073709551616 / 18446744073709551616 / 18446744073709551616 / 18446744073709551616 % 18446744073709551616
def lw5 (z : Int) : Int := z / 18446744073709551616 / 18446744073709551616 / 18446744073709551616 / 18446744073709551616 / 18446744073709551616 % 18446744073709551616
def lw6 (z : Int) : Int := z / 18446744073709551616 / 18446744073709551616 / 18446744073709551616 / 18446744073709551616 / 18446744073709551616 / 18446744073709551616 % 18446744073709551616
def lw7 (z : Int) : Int := z / 18446744073709551616 / 18446744073709551616 / 18446744073709551616 / 18446744073709551616 / 18446744073709551616 / 18446744073709551616 / 18446744073709551616 % 18446744073709551616
abbrev LV (z : Int) : Value := L8 (lw0 z) (lw1 z) (lw2 z) (lw3 z) (lw4 z) (lw5 z) (lw6 z) (lw7 z)
/-- A number of 512 bits. -/
def LR (z : Int) : Prop := -6703903964971298549787012499102923063739682910296196688861780721860882015036773488400937149083451713845015929093243025426876941405973284973216824503042048 ≤ z ∧ z < 6703903964971298549787012499102923063739682910296196688861780721860882015036773488400937149083451713845015929093243025426876941405973284973216824503042048
theorem lw_words (z : Int) : Words [lw0 z, lw1 z, lw2 z, lw3 z, lw4 z, lw5 z, lw6 z, lw7 z] := by
  have h : ∀ x : Int, Word (x % 18446744073709551616) := fun x => ⟨Int.emod_nonneg _ (by decide), Int.emod_lt_of_pos _ (by decide)⟩
  exact words_cons.2 ⟨h _, words_cons.2 ⟨h _, words_cons.2 ⟨h _, words_cons.2 ⟨h _, words_cons.2 ⟨h _, words_cons.2 ⟨h _, words_cons.2 ⟨h _, words_cons.2 ⟨h _, words_nil⟩⟩⟩⟩⟩⟩⟩⟩
theorem lw_sl {z : Int} (h : LR z) : sl (lw0 z) (lw1 z) (lw2 z) (lw3 z) (lw4 z) (lw5 z) (lw6 z) (lw7 z) = z := by
  unfold LR at h
  unfold sl
  simp only [val64]
  unfold lw0 lw1 lw2 lw3 lw4 lw5 lw6 lw7
  have e0 : z = 18446744073709551616 * (z / 18446744073709551616) + z % 18446744073709551616 := by omega
  have k0 := Int.emod_nonneg z (show (18446744073709551616 : Int) ≠ 0 by decide)
  have l0 := Int.emod_lt_of_pos z (show (0 : Int) < 18446744073709551616 by decide)
  generalize z % 18446744073709551616 = r0 at *
  generalize z / 18446744073709551616 = z1 at *
  have e1 : z1 = 18446744073709551616 * (z1 / 18446744073709551616) + z1 % 18446744073709551616 := by omega
  have k1 := Int.emod_nonneg z1 (show (18446744073709551616 : Int) ≠ 0 by decide)
  have l1 := Int.emod_lt_of_pos z1 (show (0 : Int) < 18446744073709551616 by decide)
  generalize z1 % 18446744073709551616 = r1 at *
  generalize z1 / 18446744073709551616 = z2 at *
  have e2 : z2 = 18446744073709551616 * (z2 / 18446744073709551616) + z2 % 18446744073709551616 := by omega
  have k2 := Int.emod_nonneg z2 (show (18446744073709551616 : Int) ≠ 0 by decide)
  have l2 := Int.emod_lt_of_pos z2 (show (0 : Int) < 18446744073709551616 by decide)
  generalize z2 % 18446744073709551616 = r2 at *
  generalize z2 / 18446744073709551616 = z3 at *
  have e3 : z3 = 18446744073709551616 * (z3 / 18446744073709551616) + z3 % 18446744073709551616 := by omega
  have k3 := Int.emod_nonneg z3 (show (18446744073709551616 : Int) ≠ 0 by decide)
  have l3 := Int.emod_lt_of_pos z3 (show (0 : Int) < 18446744073709551616 by decide)
  generalize z3 % 18446744073709551616 = r3 at *
  generalize z3 / 18446744073709551616 = z4 at *
  have e4 : z4 = 18446744073709551616 * (z4 / 18446744073709551616) + z4 % 18446744073709551616 := by omega
  have k4 := Int.emod_nonneg z4 (show (18446744073709551616 : Int) ≠ 0 by decide)
  have l4 := Int.emod_lt_of_pos z4 (show (0 : Int) < 18446744073709551616 by decide)
  generalize z4 % 18446744073709551616 = r4 at *
  generalize z4 / 18446744073709551616 = z5 at *
  have e5 : z5 = 18446744073709551616 * (z5 / 18446744073709551616) + z5 % 18446744073709551616 := by omega
  have k5 := Int.emod_nonneg z5 (show (18446744073709551616 : Int) ≠ 0 by decide)
  have l5 := Int.emod_lt_of_pos z5 (show (0 : Int) < 18446744073709551616 by decide)
  generalize z5 % 18446744073709551616 = r5 at *
  generalize z5 / 18446744073709551616 = z6 at *
  have e6 : z6 = 18446744073709551616 * (z6 / 18446744073709551616) + z6 % 18446744073709551616 := by omega
  have k6 := Int.emod_nonneg z6 (show (18446744073709551616 : Int) ≠ 0 by decide)
  have l6 := Int.emod_lt_of_pos z6 (show (0 : Int) < 18446744073709551616 by decide)
  generalize z6 % 18446744073709551616 = r6 at *
  generalize z6 / 18446744073709551616 = z7 at *
  have e7 : z7 = 18446744073709551616 * (z7 / 18446744073709551616) + z7 % 18446744073709551616 := by omega
  have k7 := Int.emod_nonneg z7 (show (18446744073709551616 : Int) ≠ 0 by decide)
  have l7 := Int.emod_lt_of_pos z7 (show (0 : Int) < 18446744073709551616 by decide)
  generalize z7 % 18446744073709551616 = r7 at *
  generalize z7 / 18446744073709551616 = z8 at *
  split <;> omega
theorem sl_lr {z0 z1 z2 z3 z4 z5 z6 z7 : Int} (wz : Words [z0, z1, z2, z3, z4, z5, z6, z7]) : LR (sl z0 z1 z2 z3 z4 z5 z6 z7) := by
  obtain ⟨u1, u2, u3⟩ := sl_top wz
  unfold LR sl
  split <;> omega
theorem lv_of {z0 z1 z2 z3 z4 z5 z6 z7 z : Int} (wz : Words [z0, z1, z2, z3, z4, z5, z6, z7]) (h : sl z0 z1 z2 z3 z4 z5 z6 z7 = z) : L8 z0 z1 z2 z3 z4 z5 z6 z7 = LV z := by
  subst h
  have e := sl_inj wz (lw_words _) (lw_sl (sl_lr wz)).symm
  simp only [List.cons.injEq] at e
  obtain ⟨e0, e1, e2, e3, e4, e5, e6, e7, -⟩ := e
  unfold LV
  rw [← e0, ← e1, ← e2, ← e3, ← e4, ← e5, ← e6, ← e7]
theorem times_lv {z : Int} {w w' : World} {e : Ending} (h : TimesP z w e w') : VP (LV z) w e w' := by
  obtain ⟨z0, z1, z2, z3, z4, z5, z6, z7, rfl, wz, hz, hB⟩ := h
  exact ⟨by rw [lv_of wz hz], hB⟩
theorem ww_words (z : Int) : Word (ww3 z) ∧ Word (ww2 z) ∧ Word (ww1 z) ∧ Word (ww0 z) := by
  have h : ∀ x : Int, Word (x % 18446744073709551616) := fun x => ⟨Int.emod_nonneg _ (by decide), Int.emod_lt_of_pos _ (by decide)⟩
  exact ⟨h _, h _, h _, h _⟩
theorem ww_sw {z : Int} (h : told z = true) : sw (ww3 z) (ww2 z) (ww1 z) (ww0 z) = z := by
  unfold told at h
  rw [decide_eq_true_iff] at h
  unfold sw uw ww3 ww2 ww1 ww0
  split <;> omega
theorem times_det (x y : Int) (hx : told x = true) (hy : told y = true) (w : World) : Calls Try.prog 37 #[W4 x, W4 y] w (VP (LV (x * y)) w) := by
  obtain ⟨p3, p2, p1, p0⟩ := ww_words x
  obtain ⟨q3, q2, q1, q0⟩ := ww_words y
  have h := times_any (ww3 x) (ww2 x) (ww1 x) (ww0 x) (ww3 y) (ww2 y) (ww1 y) (ww0 y) p3 p2 p1 p0 q3 q2 q1 q0 w
  rw [ww_sw hx, ww_sw hy] at h
  exact h.mono fun e w' h => times_lv h
theorem tellW_det (x : Int) (hx : LR x) (w : World) : Calls Try.prog 60 #[LV x] w (VP (tellV x) w) := tellWide_det (lw0 x) (lw1 x) (lw2 x) (lw3 x) (lw4 x) (lw5 x) (lw6 x) (lw7 x) (lw_words x) x (lw_sl hx) w
theorem told_lr {x : Int} (h : told x = true) : LR x := by
  unfold told at h
  rw [decide_eq_true_iff] at h
  unfold LR
  omega
end Go.Proofs.Ytjhmacpejfldoaa

/- Points: the program's walks. -/
namespace Go.Proofs.Ytjhmacpejfldoaa
open Go.RowKit
theorem ar1 (a : List Value) (T : TypeId) (w : World) : ArgsB w (w.alloc (.cells a.toArray T)) [a] := by
  refine ⟨(Below.refl _ _).alloc (Nat.le_refl _) _, fun j vs hj => ?_⟩
  match j, hj with
  | 0, hj => cases hj; exact Blk.new w a T rfl
  | j + 1, hj => simp at hj
theorem ArgsB.more {w W : World} {vss : List (List Value)} (h : ArgsB w W vss) (hl : W.heap.size = w.heap.size + vss.length) (b : List Value) (T : TypeId) : ArgsB w (W.alloc (.cells b.toArray T)) (vss ++ [b]) := by
  refine ⟨(h.alloc _).below, fun j vs hj => ?_⟩
  rcases Nat.lt_trichotomy j vss.length with hlt | rfl | hgt
  · rw [List.getElem?_append_left hlt] at hj
    exact (h.b j hj).alloc _
  · simp at hj
    subst hj
    exact Blk.new W b T hl.symm
  · rw [List.getElem?_eq_none (by simp; omega)] at hj
    cases hj
theorem ArgsB.left {w W : World} {us vs : List (List Value)} (h : ArgsB w W (us ++ vs)) : ArgsB w W us := by
  refine ⟨h.below, fun j xs hj => h.b j ?_⟩
  rw [List.getElem?_append_left]
  · exact hj
  · rcases Nat.lt_or_ge j us.length with h | h
    · exact h
    · rw [List.getElem?_eq_none h] at hj; cases hj
theorem ar2 (a b : List Value) (T U : TypeId) (w : World) : ArgsB w ((w.alloc (.cells a.toArray T)).alloc (.cells b.toArray U)) [a, b] := (ar1 a T w).more (by simp) b U
theorem ar3 (a b c : List Value) (T U V : TypeId) (w : World) : ArgsB w (((w.alloc (.cells a.toArray T)).alloc (.cells b.toArray U)).alloc (.cells c.toArray V)) [a, b, c] := (ar2 a b T U w).more (by simp) c V
theorem below_set4 {B g : Nat} {w W : World} {v0 v1 v2 v3 : Value} (hg : B ≤ g) (h : Below B w W) : Below B w ((((W.setCell ⟨g, 0, none⟩ v0).setCell ⟨g, 1, none⟩ v1).setCell ⟨g, 2, none⟩ v2).setCell ⟨g, 3, none⟩ v3) := (((h.setCell (by exact hg) _).setCell (by exact hg) _).setCell (by exact hg) _).setCell (by exact hg) _
set_option maxRecDepth 100000 in
set_option maxHeartbeats 2000000 in
theorem toldI_det (x : Int) (hx : told x = true) (w : World) : Calls Try.prog 36 #[LV x] w (VP (W4 x) w) := by
  have T0 : ArgsB w ((w.alloc (.cells #[.int .u64 (lw0 x), .int .u64 (lw1 x), .int .u64 (lw2 x), .int .u64 (lw3 x), .int .u64 (lw4 x), .int .u64 (lw5 x), .int .u64 (lw6 x), .int .u64 (lw7 x)] 77)).alloc (.cells #[.int .u64 0, .int .u64 0, .int .u64 0, .int .u64 0] 31)) [[.int .u64 (lw0 x), .int .u64 (lw1 x), .int .u64 (lw2 x), .int .u64 (lw3 x), .int .u64 (lw4 x), .int .u64 (lw5 x), .int .u64 (lw6 x), .int .u64 (lw7 x)], [.int .u64 0, .int .u64 0, .int .u64 0, .int .u64 0]] := ar2 _ _ _ _ w
  have TL := tellW_det x (told_lr hx)
  rw [show tellV x = .tuple #[W4 x, .bool true] from if_pos hx] at TL
  go_enter Try.func36, Try.ntmps36
  go_wp2_with fail
  refine (TL _).mono ?_
  rintro e w1 ⟨rfl, hB⟩
  replace T0 := T0.step hB
  clear hB
  go_upto_region 2 with fail
  have A0 : Blk (w1.alloc (.cells #[.int .u64 (ww3 x), .int .u64 (ww2 x), .int .u64 (ww1 x), .int .u64 (ww0 x)] 31)) w1.heap.size [.int .u64 (ww3 x), .int .u64 (ww2 x), .int .u64 (ww1 x), .int .u64 (ww0 x)] := Blk.new w1 _ _ rfl
  have hlt := (T0.b 1 rfl).lt
  replace T0 := T0.alloc (.cells #[.int .u64 (ww3 x), .int .u64 (ww2 x), .int .u64 (ww1 x), .int .u64 (ww0 x)] 31)
  generalize w1.alloc (.cells #[.int .u64 (ww3 x), .int .u64 (ww2 x), .int .u64 (ww1 x), .int .u64 (ww0 x)] 31) = W1 at *
  generalize w1.heap.size = ga at *
  have rc0 := (T0.b 1 rfl).c 0 rfl; have rf0 := (T0.b 1 rfl).f 0 rfl; have rc1 := (T0.b 1 rfl).c 1 rfl; have rf1 := (T0.b 1 rfl).f 1 rfl; have rc2 := (T0.b 1 rfl).c 2 rfl; have rf2 := (T0.b 1 rfl).f 2 rfl; have rc3 := (T0.b 1 rfl).c 3 rfl; have rf3 := (T0.b 1 rfl).f 3 rfl; have rl := (T0.b 1 rfl).lt
  obtain ⟨ac0, ac1, ac2, ac3⟩ := A0.cs4; have al := A0.lt
  have HB := T0.below
  clear T0 TL A0
  go_wp2
  refine bodyPost_ret (v := W4 x) (by simp [results, Try.results36, go_sem, rc0, rc1, rc2, rc3]) rfl ?_
  exact ⟨rfl, by first | exact below_set4 (g := w.heap.size + 1) (by omega) HB | exact (below_set4 (g := w.heap.size + 1) (by omega) HB).drew⟩
end Go.Proofs.Ytjhmacpejfldoaa

/- Points: what three numbers have in common. -/
namespace Go.Proofs.Ytjhmacpejfldoaa
open Go.RowKit
end Go.Proofs.Ytjhmacpejfldoaa

/- Points: whether one is right, by the program. -/
namespace Go.Proofs.Ytjhmacpejfldoaa
open Go.RowKit
abbrev PV (x y z : Int) : Value := .agg #[.int .u64 (ww3 x), .int .u64 (ww2 x), .int .u64 (ww1 x), .int .u64 (ww0 x), .int .u64 (ww3 y), .int .u64 (ww2 y), .int .u64 (ww1 y), .int .u64 (ww0 y), .int .u64 (ww3 z), .int .u64 (ww2 z), .int .u64 (ww1 z), .int .u64 (ww0 z)]
end Go.Proofs.Ytjhmacpejfldoaa

/- How a value of four words reads as data: opened and shut. -/
namespace Go.Proofs.Ytjhmacpejfldoaa
open Go.ChangeShapes Go.WideShapes Go.ChangeAt Go.RowKit Go.Joins
theorem Try.own : ownKnob Try.prog.godebug = none := by kernel_rfl
end Go.Proofs.Ytjhmacpejfldoaa

/- Points: the law's own copy of one, and how one reads as data. -/
namespace Go.Proofs.Ytjhmacpejfldoaa
open Go.ChangeShapes Go.WideShapes Go.ChangeAt Go.RowKit Go.Joins
end Go.Proofs.Ytjhmacpejfldoaa

/- A spot as a point: the walks of the model's point, told, of the program's, and of the law. -/
namespace Go.Proofs.Ytjhmacpejfldoaa
open Go.RowKit
end Go.Proofs.Ytjhmacpejfldoaa

/- A spot as a point: the walks of the model's point, of the program's, and of the law. -/
namespace Go.Proofs.Ytjhmacpejfldoaa
open Go.RowKit
end Go.Proofs.Ytjhmacpejfldoaa

/- Spots and segments beside points: the walks of their rightness, by the model and by the program. -/
namespace Go.Proofs.Ytjhmacpejfldoaa
open Go.RowKit
abbrev Sp (x y : Int) : Value := .agg #[.int .i64 x, .int .i64 y]
def spotOk (x y : Int) : Bool := decide (-1000000 ≤ x ∧ x ≤ 1000000 ∧ -1000000 ≤ y ∧ y ≤ 1000000)
theorem l1In_any (x a b : Int) (c : Bool) (hc : decide (a ≤ x ∧ x ≤ b) = c) (w : World) : Calls Try.prog 51 #[.int .i64 x, .int .i64 a, .int .i64 b] w (BoolP c w) := by
  go_enter Try.func51, Try.ntmps51
  go_wp2
  all_goals go_ret
  all_goals exact ⟨ret_bool (by subst hc; simp; try omega), Below.refl _ _⟩
theorem implSpotOk_any (x y : Int) (c : Bool) (hc : spotOk x y = c) (w : World) : Calls Try.prog 23 #[Sp x y] w (BoolP c w) := by
  go_enter Try.func23, Try.ntmps23
  go_wp2
  all_goals go_ret
  all_goals exact ⟨ret_bool (by subst hc; unfold spotOk; simp [*]; try omega), (Below.refl _ _).alloc (Nat.le_refl _) _⟩
theorem specSpotOk_any (x y : Int) (c : Bool) (hc : spotOk x y = c) (w : World) : Calls Try.prog 26 #[Sp x y] w (BoolP c w) := by
  by_cases hx : -1000000 ≤ x ∧ x ≤ 1000000
  · go_enter Try.func26, Try.ntmps26
    go_wp2_with fail
    refine (l1In_any _ _ _ true (by simpa using hx) _).mono ?_
    rintro e w1 ⟨rfl, hB⟩
    obtain ⟨hq, _⟩ := bcell hB
    have HB : Below w.heap.size w w1 := ((Below.refl _ _).alloc (Nat.le_refl _) _).trans (hB.mono (by simp))
    clear hB
    go_wp2_with fail
    refine (l1In_any _ _ _ c (by subst hc; unfold spotOk; simp [hx]) _).mono ?_
    rintro e w2 ⟨rfl, hB⟩
    go_wp2
    go_ret
    exact ⟨rfl, HB.trans (hB.mono HB.size)⟩
  · go_enter Try.func26, Try.ntmps26
    go_wp2_with fail
    refine (l1In_any _ _ _ false (by simpa using hx) _).mono ?_
    rintro e w1 ⟨rfl, hB⟩
    have HB : Below w.heap.size w w1 := ((Below.refl _ _).alloc (Nat.le_refl _) _).trans (hB.mono (by simp))
    clear hB
    go_wp2
    go_ret
    exact ⟨ret_bool (by subst hc; unfold spotOk; simp; omega), HB⟩
def lessI (x y u v : Int) : Bool := decide (x < u ∨ x = u ∧ y < v)
theorem l4Less_any (x y u v : Int) (c : Bool) (hc : lessI x y u v = c) (w : World) : Calls Try.prog 74 #[Sp x y, Sp u v] w (BoolP c w) := by
  go_enter Try.func74, Try.ntmps74
  go_wp2
  all_goals go_ret
  all_goals exact ⟨ret_bool (by subst hc; unfold lessI; simp [*]; try omega), ((Below.refl _ _).alloc (Nat.le_refl _) _).alloc (by simp) _⟩
theorem isAhead_any (x y u v : Int) (c : Bool) (hc : lessI x y u v = c) (w : World) : Calls Try.prog 57 #[Sp x y, Sp u v] w (BoolP c w) := by
  go_enter Try.func57, Try.ntmps57
  go_wp2
  all_goals go_ret
  all_goals exact ⟨ret_bool (by subst hc; unfold lessI; simp [*]; try omega), ((Below.refl _ _).alloc (Nat.le_refl _) _).alloc (by simp) _⟩
abbrev Sg (a b c d : Int) : Value := .agg #[.int .i64 a, .int .i64 b, .int .i64 c, .int .i64 d]
/-- Four cells of a block, to be written. -/
structure Quad (W : World) (g : Nat) (v0 v1 v2 v3 : Value) : Prop where
  c0 : W.cell? ⟨g, 0, none⟩ = some v0
  c1 : W.cell? ⟨g, 1, none⟩ = some v1
  c2 : W.cell? ⟨g, 2, none⟩ = some v2
  c3 : W.cell? ⟨g, 3, none⟩ = some v3
  f0 : W.frozen? ⟨g, 0, none⟩ = false
  f1 : W.frozen? ⟨g, 1, none⟩ = false
  f2 : W.frozen? ⟨g, 2, none⟩ = false
  f3 : W.frozen? ⟨g, 3, none⟩ = false
  lt : g < W.heap.size
theorem Quad.below {W W' : World} {B g : Nat} {v0 v1 v2 v3 : Value} (h : Quad W g v0 v1 v2 v3) (hB : Below B W W') (hg : g < B) : Quad W' g v0 v1 v2 v3 :=
  ⟨(hB.cell (p := ⟨g, 0, none⟩) hg).trans h.c0, (hB.cell (p := ⟨g, 1, none⟩) hg).trans h.c1, (hB.cell (p := ⟨g, 2, none⟩) hg).trans h.c2, (hB.cell (p := ⟨g, 3, none⟩) hg).trans h.c3,
   (hB.frozen (p := ⟨g, 0, none⟩) hg).trans h.f0, (hB.frozen (p := ⟨g, 1, none⟩) hg).trans h.f1, (hB.frozen (p := ⟨g, 2, none⟩) hg).trans h.f2, (hB.frozen (p := ⟨g, 3, none⟩) hg).trans h.f3, Nat.lt_of_lt_of_le h.lt hB.size⟩
theorem Quad.alloc {W : World} {g : Nat} {v0 v1 v2 v3 : Value} (h : Quad W g v0 v1 v2 v3) (o : Obj) : Quad (W.alloc o) g v0 v1 v2 v3 := h.below ((Below.refl W.heap.size W).alloc (Nat.le_refl _) o) h.lt
theorem Quad.new (W : World) (v0 v1 v2 v3 : Value) (t : TypeId) {g : Nat} (hg : g = W.heap.size) : Quad (W.alloc (.cells #[v0, v1, v2, v3] t)) g v0 v1 v2 v3 := by
  subst hg
  constructor <;> simp [go_sem]
def segOk (a b c d : Int) : Bool := spotOk a b && spotOk c d && lessI a b c d
set_option maxRecDepth 100000 in
theorem specSegOk_any (a b c d : Int) (z : Bool) (hz : segOk a b c d = z) (w : World) : Calls Try.prog 75 #[Sg a b c d] w (BoolP z w) := by
  have HB0 : Below w.heap.size w (w.alloc (.cells #[.int .i64 a, .int .i64 b, .int .i64 c, .int .i64 d] 39)) := (Below.refl _ _).alloc (Nat.le_refl _) _
  by_cases hx : spotOk a b = true
  · by_cases hy : spotOk c d = true
    · go_enter Try.func75, Try.ntmps75
      go_wp2_with fail
      refine (specSpotOk_any _ _ true hx _).mono ?_
      rintro e w1 ⟨rfl, hB⟩
      have HB : Below w.heap.size w w1 := HB0.trans (hB.mono (by simp))
      have q0 : Quad w1 w.heap.size _ _ _ _ := (Quad.new w (.int .i64 a) (.int .i64 b) (.int .i64 c) (.int .i64 d) _ rfl).below hB (by simp)
      obtain ⟨q00, q01, q02, q03, -, -, -, -, q08⟩ := id q0
      clear hB
      go_wp2_with fail
      refine (specSpotOk_any _ _ true hy _).mono ?_
      rintro e w2 ⟨rfl, hB⟩
      have HB2 : Below w.heap.size w w2 := HB.trans (hB.mono HB.size)
      have q2 := q0.below hB q0.lt
      clear q00 q01 q02 q03 q08
      obtain ⟨q00, q01, q02, q03, -, -, -, -, q08⟩ := q2
      clear hB HB
      go_wp2_with fail
      refine (l4Less_any _ _ _ _ z (by rw [← hz]; simp [segOk, hx, hy]) _).mono ?_
      rintro e w3 ⟨rfl, hB⟩
      go_wp2
      go_ret
      exact ⟨rfl, HB2.trans (hB.mono HB2.size)⟩
    · have hy := Bool.eq_false_iff.2 hy
      go_enter Try.func75, Try.ntmps75
      go_wp2_with fail
      refine (specSpotOk_any _ _ true hx _).mono ?_
      rintro e w1 ⟨rfl, hB⟩
      have HB : Below w.heap.size w w1 := HB0.trans (hB.mono (by simp))
      have q0 : Quad w1 w.heap.size _ _ _ _ := (Quad.new w (.int .i64 a) (.int .i64 b) (.int .i64 c) (.int .i64 d) _ rfl).below hB (by simp)
      obtain ⟨q00, q01, q02, q03, -, -, -, -, q08⟩ := id q0
      clear hB
      go_wp2_with fail
      refine (specSpotOk_any _ _ false hy _).mono ?_
      rintro e w2 ⟨rfl, hB⟩
      have HB2 : Below w.heap.size w w2 := HB.trans (hB.mono HB.size)
      clear hB HB
      go_wp2
      go_ret
      exact ⟨ret_bool (by rw [← hz]; simp [segOk, hx, hy]), HB2⟩
  · have hx := Bool.eq_false_iff.2 hx
    go_enter Try.func75, Try.ntmps75
    go_wp2_with fail
    refine (specSpotOk_any _ _ false hx _).mono ?_
    rintro e w1 ⟨rfl, hB⟩
    have HB : Below w.heap.size w w1 := HB0.trans (hB.mono (by simp))
    clear hB
    go_wp2
    go_ret
    exact ⟨ret_bool (by rw [← hz]; simp [segOk, hx]), HB⟩
set_option maxRecDepth 100000 in
theorem implSegOk_any (a b c d : Int) (z : Bool) (hz : segOk a b c d = z) (w : World) : Calls Try.prog 30 #[Sg a b c d] w (BoolP z w) := by
  have HB0 : Below w.heap.size w (w.alloc (.cells #[.int .i64 a, .int .i64 b, .int .i64 c, .int .i64 d] 39)) := (Below.refl _ _).alloc (Nat.le_refl _) _
  by_cases hx : spotOk a b = true
  · by_cases hy : spotOk c d = true
    · go_enter Try.func30, Try.ntmps30
      go_wp2_with fail
      refine (implSpotOk_any _ _ true hx _).mono ?_
      rintro e w1 ⟨rfl, hB⟩
      have HB : Below w.heap.size w w1 := HB0.trans (hB.mono (by simp))
      have q0 : Quad w1 w.heap.size _ _ _ _ := (Quad.new w (.int .i64 a) (.int .i64 b) (.int .i64 c) (.int .i64 d) _ rfl).below hB (by simp)
      obtain ⟨q00, q01, q02, q03, -, -, -, -, q08⟩ := id q0
      clear hB
      go_wp2_with fail
      refine (implSpotOk_any _ _ true hy _).mono ?_
      rintro e w2 ⟨rfl, hB⟩
      have HB2 : Below w.heap.size w w2 := HB.trans (hB.mono HB.size)
      have q2 := q0.below hB q0.lt
      clear q00 q01 q02 q03 q08
      obtain ⟨q00, q01, q02, q03, -, -, -, -, q08⟩ := q2
      clear hB HB
      go_wp2_with fail
      refine (isAhead_any _ _ _ _ z (by rw [← hz]; simp [segOk, hx, hy]) _).mono ?_
      rintro e w3 ⟨rfl, hB⟩
      go_wp2
      go_ret
      exact ⟨rfl, HB2.trans (hB.mono HB2.size)⟩
    · have hy := Bool.eq_false_iff.2 hy
      go_enter Try.func30, Try.ntmps30
      go_wp2_with fail
      refine (implSpotOk_any _ _ true hx _).mono ?_
      rintro e w1 ⟨rfl, hB⟩
      have HB : Below w.heap.size w w1 := HB0.trans (hB.mono (by simp))
      have q0 : Quad w1 w.heap.size _ _ _ _ := (Quad.new w (.int .i64 a) (.int .i64 b) (.int .i64 c) (.int .i64 d) _ rfl).below hB (by simp)
      obtain ⟨q00, q01, q02, q03, -, -, -, -, q08⟩ := id q0
      clear hB
      go_wp2_with fail
      refine (implSpotOk_any _ _ false hy _).mono ?_
      rintro e w2 ⟨rfl, hB⟩
      have HB2 : Below w.heap.size w w2 := HB.trans (hB.mono HB.size)
      clear hB HB
      go_wp2
      go_ret
      exact ⟨ret_bool (by rw [← hz]; simp [segOk, hx, hy]), HB2⟩
  · have hx := Bool.eq_false_iff.2 hx
    go_enter Try.func30, Try.ntmps30
    go_wp2_with fail
    refine (implSpotOk_any _ _ false hx _).mono ?_
    rintro e w1 ⟨rfl, hB⟩
    have HB : Below w.heap.size w w1 := HB0.trans (hB.mono (by simp))
    clear hB
    go_wp2
    go_ret
    exact ⟨ret_bool (by rw [← hz]; simp [segOk, hx]), HB⟩
end Go.Proofs.Ytjhmacpejfldoaa

/- The ends of a segment as points: the program's walk. -/
namespace Go.Proofs.Ytjhmacpejfldoaa
open Go.RowKit
end Go.Proofs.Ytjhmacpejfldoaa

/- A segment of two spots: the model's walk. -/
namespace Go.Proofs.Ytjhmacpejfldoaa
open Go.RowKit
set_option maxRecDepth 100000 in
set_option maxHeartbeats 400000 in
theorem specSegOf_any (x y u v A B C D : Int) (l k : Bool) (hl : lessI u v x y = l) (hk : segOk A B C D = k) (hA : cond l u x = A) (hB : cond l v y = B) (hC : cond l x u = C) (hD : cond l y v = D) (w : World) :
    Calls Try.prog 46 #[Sp x y, Sp u v] w (VP (.tuple #[Sg (cond k A 0) (cond k B 0) (cond k C 0) (cond k D 0), .bool k]) w) := by
  cases l <;> simp only [cond_true, cond_false] at hA hB hC hD <;> subst hA hB hC hD
  · have B0 := Blk.new w [.int .i64 x, .int .i64 y] 26 rfl
    have HB0 : Below w.heap.size w _ := (Below.refl _ w).alloc (Nat.le_refl _) (.cells #[.int .i64 x, .int .i64 y] 26)
    have B1 := Blk.new (w.alloc (.cells #[.int .i64 x, .int .i64 y] 26)) [.int .i64 u, .int .i64 v] 26 (g := w.heap.size + 1) (by simp)
    replace B0 := B0.alloc (.cells #[.int .i64 u, .int .i64 v] 26)
    replace HB0 := HB0.alloc (by simp) (.cells #[.int .i64 u, .int .i64 v] 26)
    have B2 := Blk.new ((w.alloc (.cells #[.int .i64 x, .int .i64 y] 26)).alloc (.cells #[.int .i64 u, .int .i64 v] 26)) [.int .i64 0, .int .i64 0, .int .i64 0, .int .i64 0] 39 (g := w.heap.size + 1 + 1) (by simp)
    replace B0 := B0.alloc (.cells #[.int .i64 0, .int .i64 0, .int .i64 0, .int .i64 0] 39)
    replace B1 := B1.alloc (.cells #[.int .i64 0, .int .i64 0, .int .i64 0, .int .i64 0] 39)
    replace HB0 := HB0.alloc (by simp; omega) (.cells #[.int .i64 0, .int .i64 0, .int .i64 0, .int .i64 0] 39)
    go_enter Try.func46, Try.ntmps46
    go_wp2_with fail
    refine (l4Less_any _ _ _ _ false hl _).mono ?_
    rintro e w1 ⟨rfl, hB⟩
    replace B0 := B0.step hB; replace B1 := B1.step hB; replace B2 := B2.step hB
    have HB : Below w.heap.size w w1 := HB0.trans (hB.mono HB0.size)
    clear hB HB0
    have cB00 := B0.c 0 rfl; have fB00 := B0.f 0 rfl; have cB01 := B0.c 1 rfl; have fB01 := B0.f 1 rfl; have cB10 := B1.c 0 rfl; have fB10 := B1.f 0 rfl; have cB11 := B1.c 1 rfl; have fB11 := B1.f 1 rfl; have cB20 := B2.c 0 rfl; have fB20 := B2.f 0 rfl; have cB21 := B2.c 1 rfl; have fB21 := B2.f 1 rfl; have cB22 := B2.c 2 rfl; have fB22 := B2.f 2 rfl; have cB23 := B2.c 3 rfl; have fB23 := B2.f 3 rfl; have ltB0 := B0.lt; have ltB1 := B1.lt; have ltB2 := B2.lt
    go_wp2_with fail
    have D2 := B2.alloc (.cells #[.int .i64 x, .int .i64 y, .int .i64 u, .int .i64 v] 39)
    have D3 := Blk.new w1 [.int .i64 x, .int .i64 y, .int .i64 u, .int .i64 v] 39 rfl
    have HC := HB.alloc HB.size (.cells #[.int .i64 x, .int .i64 y, .int .i64 u, .int .i64 v] 39)
    refine (specSegOk_any _ _ _ _ k hk _).mono ?_
    rintro e w2 ⟨rfl, hB⟩
    replace D2 := D2.step hB
    replace D3 := D3.step hB
    have HD : Below w.heap.size w w2 := HC.trans (hB.mono HC.size)
    clear hB HC HB B0 B1 B2 cB00 fB00 cB01 fB01 cB10 fB10 cB11 fB11 cB20 fB20 cB21 fB21 cB22 fB22 cB23 fB23 ltB0 ltB1 ltB2
    have cD20 := D2.c 0 rfl; have fD20 := D2.f 0 rfl; have cD21 := D2.c 1 rfl; have fD21 := D2.f 1 rfl; have cD22 := D2.c 2 rfl; have fD22 := D2.f 2 rfl; have cD23 := D2.c 3 rfl; have fD23 := D2.f 3 rfl; have cD30 := D3.c 0 rfl; have fD30 := D3.f 0 rfl; have cD31 := D3.c 1 rfl; have fD31 := D3.f 1 rfl; have cD32 := D3.c 2 rfl; have fD32 := D3.f 2 rfl; have cD33 := D3.c 3 rfl; have fD33 := D3.f 3 rfl
    have ltD2 := D2.lt; have ltD3 := D3.lt
    cases k
    · go_wp2
      refine bodyPost_ret (v := .tuple #[Sg 0 0 0 0, .bool false]) (by simp [results, Try.results46, go_sem, cD20, cD21, cD22, cD23]) rfl ?_
      refine ⟨rfl, ?_⟩
      repeat' (refine Below.setCell ?_ (by simp; try omega) _)
      exact HD
    · go_wp2
      refine bodyPost_ret (v := .tuple #[Sg x y u v, .bool true]) (by simp [results, Try.results46, go_sem, cD20, cD21, cD22, cD23]) rfl ?_
      refine ⟨rfl, ?_⟩
      repeat' (refine Below.setCell ?_ (by simp; try omega) _)
      exact HD
  · have B0 := Blk.new w [.int .i64 x, .int .i64 y] 26 rfl
    have HB0 : Below w.heap.size w _ := (Below.refl _ w).alloc (Nat.le_refl _) (.cells #[.int .i64 x, .int .i64 y] 26)
    have B1 := Blk.new (w.alloc (.cells #[.int .i64 x, .int .i64 y] 26)) [.int .i64 u, .int .i64 v] 26 (g := w.heap.size + 1) (by simp)
    replace B0 := B0.alloc (.cells #[.int .i64 u, .int .i64 v] 26)
    replace HB0 := HB0.alloc (by simp) (.cells #[.int .i64 u, .int .i64 v] 26)
    have B2 := Blk.new ((w.alloc (.cells #[.int .i64 x, .int .i64 y] 26)).alloc (.cells #[.int .i64 u, .int .i64 v] 26)) [.int .i64 0, .int .i64 0, .int .i64 0, .int .i64 0] 39 (g := w.heap.size + 1 + 1) (by simp)
    replace B0 := B0.alloc (.cells #[.int .i64 0, .int .i64 0, .int .i64 0, .int .i64 0] 39)
    replace B1 := B1.alloc (.cells #[.int .i64 0, .int .i64 0, .int .i64 0, .int .i64 0] 39)
    replace HB0 := HB0.alloc (by simp; omega) (.cells #[.int .i64 0, .int .i64 0, .int .i64 0, .int .i64 0] 39)
    go_enter Try.func46, Try.ntmps46
    go_wp2_with fail
    refine (l4Less_any _ _ _ _ true hl _).mono ?_
    rintro e w1 ⟨rfl, hB⟩
    replace B0 := B0.step hB; replace B1 := B1.step hB; replace B2 := B2.step hB
    have HB : Below w.heap.size w w1 := HB0.trans (hB.mono HB0.size)
    clear hB HB0
    have cB00 := B0.c 0 rfl; have fB00 := B0.f 0 rfl; have cB01 := B0.c 1 rfl; have fB01 := B0.f 1 rfl; have cB10 := B1.c 0 rfl; have fB10 := B1.f 0 rfl; have cB11 := B1.c 1 rfl; have fB11 := B1.f 1 rfl; have cB20 := B2.c 0 rfl; have fB20 := B2.f 0 rfl; have cB21 := B2.c 1 rfl; have fB21 := B2.f 1 rfl; have cB22 := B2.c 2 rfl; have fB22 := B2.f 2 rfl; have cB23 := B2.c 3 rfl; have fB23 := B2.f 3 rfl; have ltB0 := B0.lt; have ltB1 := B1.lt; have ltB2 := B2.lt
    go_wp2_with fail
    have D2 := ((((B2.setO (p := ⟨w.heap.size, 0, none⟩) (by simp; omega) (.int .i64 u)).setO (p := ⟨w.heap.size, 1, none⟩) (by simp; omega) (.int .i64 v)).setO (p := ⟨w.heap.size + 1, 0, none⟩) (by simp) (.int .i64 x)).setO (p := ⟨w.heap.size + 1, 1, none⟩) (by simp) (.int .i64 y)).alloc (.cells #[.int .i64 u, .int .i64 v, .int .i64 x, .int .i64 y] 39)
    have HC := ((((HB.setCell (p := ⟨w.heap.size, 0, none⟩) (by simp) (.int .i64 u)).setCell (p := ⟨w.heap.size, 1, none⟩) (by simp) (.int .i64 v)).setCell (p := ⟨w.heap.size + 1, 0, none⟩) (by simp) (.int .i64 x)).setCell (p := ⟨w.heap.size + 1, 1, none⟩) (by simp) (.int .i64 y))
    have D3 := Blk.new ((((w1.setCell ⟨w.heap.size, 0, none⟩ (.int .i64 u)).setCell ⟨w.heap.size, 1, none⟩ (.int .i64 v)).setCell ⟨w.heap.size + 1, 0, none⟩ (.int .i64 x)).setCell ⟨w.heap.size + 1, 1, none⟩ (.int .i64 y)) [.int .i64 u, .int .i64 v, .int .i64 x, .int .i64 y] 39 (g := w1.heap.size) (by simp [World.setCell])
    replace HC := HC.alloc (by have := HB.size; simpa [World.setCell] using this) (.cells #[.int .i64 u, .int .i64 v, .int .i64 x, .int .i64 y] 39)
    refine (specSegOk_any _ _ _ _ k hk _).mono ?_
    rintro e w2 ⟨rfl, hB⟩
    replace D2 := D2.step hB
    replace D3 := D3.step hB
    have HD : Below w.heap.size w w2 := HC.trans (hB.mono HC.size)
    clear hB HC HB B0 B1 B2 cB00 fB00 cB01 fB01 cB10 fB10 cB11 fB11 cB20 fB20 cB21 fB21 cB22 fB22 cB23 fB23 ltB0 ltB1 ltB2
    have cD20 := D2.c 0 rfl; have fD20 := D2.f 0 rfl; have cD21 := D2.c 1 rfl; have fD21 := D2.f 1 rfl; have cD22 := D2.c 2 rfl; have fD22 := D2.f 2 rfl; have cD23 := D2.c 3 rfl; have fD23 := D2.f 3 rfl; have cD30 := D3.c 0 rfl; have fD30 := D3.f 0 rfl; have cD31 := D3.c 1 rfl; have fD31 := D3.f 1 rfl; have cD32 := D3.c 2 rfl; have fD32 := D3.f 2 rfl; have cD33 := D3.c 3 rfl; have fD33 := D3.f 3 rfl
    have ltD2 := D2.lt; have ltD3 := D3.lt
    cases k
    · go_wp2
      refine bodyPost_ret (v := .tuple #[Sg 0 0 0 0, .bool false]) (by simp [results, Try.results46, go_sem, cD20, cD21, cD22, cD23]) rfl ?_
      refine ⟨rfl, ?_⟩
      repeat' (refine Below.setCell ?_ (by simp; try omega) _)
      exact HD
    · go_wp2
      refine bodyPost_ret (v := .tuple #[Sg u v x y, .bool true]) (by simp [results, Try.results46, go_sem, cD20, cD21, cD22, cD23]) rfl ?_
      refine ⟨rfl, ?_⟩
      repeat' (refine Below.setCell ?_ (by simp; try omega) _)
      exact HD
end Go.Proofs.Ytjhmacpejfldoaa

/- Numbers drawn from a code: what the walks of the reader share, and its small ones. -/
namespace Go.Proofs.Ytjhmacpejfldoaa
open Go.RowKit
/-- No other block has turned than g. -/
structure Kept (g : Nat) (w w' : World) : Prop where
  os : w'.os = w.os
  tape : w'.tape = w.tape
  output : w'.output = w.output
  size : w.heap.size ≤ w'.heap.size
  block : ∀ k, k < w.heap.size → k ≠ g → w'.heap[k]? = w.heap[k]?
  other : ∀ j, j ≠ 1 → g < w.heap.size → w'.cell? ⟨g, j, none⟩ = w.cell? ⟨g, j, none⟩
theorem Kept.refl (g : Nat) (w : World) : Kept g w w := ⟨rfl, rfl, rfl, Nat.le_refl _, fun _ _ _ => rfl, fun _ _ _ => rfl⟩
theorem Kept.trans {g : Nat} {a b c : World} (h : Kept g a b) (k : Kept g b c) : Kept g a c :=
  ⟨k.os.trans h.os, k.tape.trans h.tape, k.output.trans h.output, Nat.le_trans h.size k.size, fun i hi hg => (k.block i (Nat.lt_of_lt_of_le hi h.size) hg).trans (h.block i hi hg), fun j hj hl => (k.other j hj (Nat.lt_of_lt_of_le hl h.size)).trans (h.other j hj hl)⟩
theorem Kept.of {g : Nat} {a b : World} (h : Below a.heap.size a b) : Kept g a b := ⟨h.os, h.tape, h.output, h.size, fun i hi _ => h.block i hi, fun j _ hl => h.cell (p := ⟨g, j, none⟩) hl⟩
theorem Kept.drew {g : Nat} {a b : World} (h : Kept g a b) : Kept g a b.drew := ⟨h.os, h.tape, h.output, h.size, h.block, h.other⟩
theorem Kept.drewN {g : Nat} {a b : World} (h : Kept g a b) (n : Nat) : Kept g a (b.drewN n) := ⟨h.os, h.tape, h.output, h.size, h.block, h.other⟩
theorem Kept.set {g : Nat} {a b : World} (h : Kept g a b) (u : Value) : Kept g a (b.setCell ⟨g, 1, none⟩ u) :=
  ⟨h.os, h.tape, h.output, by simpa [World.setCell] using h.size, fun k hk hg => (Below.heap_setCell _ _ _ _ hg).trans (h.block k hk hg), fun j hj hl => (World.cell?_setCell_other _ _ _ _ (by intro e; simp only [Addr.mk.injEq] at e; omega)).trans (h.other j hj hl)⟩
theorem Kept.alloc {g : Nat} {a b : World} (h : Kept g a b) (o : Obj) : Kept g a (b.alloc o) := h.trans (Kept.of ((Below.refl _ _).alloc (Nat.le_refl _) o))
theorem Kept.below {g B : Nat} {a b : World} (h : Kept g a b) (hB : B ≤ g) (hB' : B ≤ a.heap.size) : Below B a b := ⟨h.os, h.tape, h.output, h.size, fun k hk => h.block k (by omega) (by omega)⟩
theorem Blk.kept {W W' : World} {g h : Nat} {vs : List Value} (H : Blk W h vs) (k : Kept g W W') (hne : h ≠ g) : Blk W' h vs := by
  have e := k.block h H.lt hne
  refine ⟨Nat.lt_of_lt_of_le H.lt k.size, fun i v hi => ⟨?_, ?_⟩⟩
  · exact (World.cell?_of_block (w := W) e).trans (H.c i hi)
  · exact (World.frozen?_of_block (w := W) e).trans (H.f i hi)
/-- The reader lies in the block g, and what it reads lies ahead of it. -/
structure Rdr (w : World) (g : Nat) (ao : Option Addr) (n cap : Nat) (cs : List Int) : Prop where
  blk : ∃ p : Nat, p ≤ n ∧ Blk w g [.slice ao n cap, .int .i64 p]
  bytes : ∀ i, (h : i < cs.length) → ∃ b off, ao = some ⟨b, off, none⟩ ∧ b < g ∧ w.cell? ⟨b, off + i, none⟩ = some (.int .u8 cs[i])
  len : cs.length = n
  small : n ≤ 1048576
  byte : ∀ c ∈ cs, 0 ≤ c ∧ c < 256
theorem Rdr.lt {w : World} {g : Nat} {ao : Option Addr} {n cap : Nat} {cs : List Int} (h : Rdr w g ao n cap cs) : g < w.heap.size := by
  obtain ⟨p, _, B⟩ := h.blk
  exact B.lt
theorem Rdr.step {w w' : World} {g : Nat} {ao : Option Addr} {n cap : Nat} {cs : List Int} (h : Rdr w g ao n cap cs) (hB : Below w.heap.size w w') : Rdr w' g ao n cap cs := by
  obtain ⟨p, hp, B⟩ := h.blk
  refine ⟨⟨p, hp, B.step hB⟩, fun i hi => ?_, h.len, h.small, h.byte⟩
  obtain ⟨b, off, e, hb, hc⟩ := h.bytes i hi
  exact ⟨b, off, e, hb, (hB.cell (p := ⟨b, off + i, none⟩) (show b < w.heap.size by have := B.lt; omega)).trans hc⟩
theorem Rdr.alloc {w : World} {g : Nat} {ao : Option Addr} {n cap : Nat} {cs : List Int} (h : Rdr w g ao n cap cs) (o : Obj) : Rdr (w.alloc o) g ao n cap cs := h.step ((Below.refl _ _).alloc (Nat.le_refl _) o)
theorem Rdr.drew {w : World} {g : Nat} {ao : Option Addr} {n cap : Nat} {cs : List Int} (h : Rdr w g ao n cap cs) : Rdr w.drew g ao n cap cs := ⟨h.blk, h.bytes, h.len, h.small, h.byte⟩
theorem Rdr.drewN {w : World} {g : Nat} {ao : Option Addr} {n cap : Nat} {cs : List Int} (h : Rdr w g ao n cap cs) (k : Nat) : Rdr (w.drewN k) g ao n cap cs := ⟨h.blk, h.bytes, h.len, h.small, h.byte⟩
theorem Rdr.put {w : World} {g : Nat} {ao : Option Addr} {n cap : Nat} {cs : List Int} (h : Rdr w g ao n cap cs) (p : Nat) (hp : p ≤ n) : Rdr (w.setCell ⟨g, 1, none⟩ (.int .i64 p)) g ao n cap cs := by
  obtain ⟨q, hq, B⟩ := h.blk
  refine ⟨⟨p, hp, B.setI 1 (by simp) _⟩, fun i hi => ?_, h.len, h.small, h.byte⟩
  obtain ⟨b, off, e, hb, hc⟩ := h.bytes i hi
  exact ⟨b, off, e, hb, (World.cell?_setCell_other _ _ _ _ (by intro e; simp only [Addr.mk.injEq] at e; omega)).trans hc⟩
/-- What a call of the reader's leaves. -/
def RdP (g : Nat) (ao : Option Addr) (n cap : Nat) (cs : List Int) (Q : Value → Prop) (w : World) (e : Ending) (w' : World) : Prop := ∃ v, e = .returned v ∧ Q v ∧ Rdr w' g ao n cap cs ∧ Kept g w w'
def IsIn (a b : Int) (v : Value) : Prop := ∃ x : Int, v = .int .i64 x ∧ a ≤ x ∧ x < b
set_option maxRecDepth 100000 in
set_option maxHeartbeats 1000000 in
theorem next_any (g : Nat) (ao : Option Addr) (n cap : Nat) (cs : List Int) (w : World) (h : Rdr w g ao n cap cs) :
    Calls Try.prog 73 #[.pointer (some ⟨g, 0, none⟩)] w (RdP g ao n cap cs (IsIn 0 256) w) := by
  obtain ⟨p, hp, B⟩ := h.blk
  have b0 := B.c 0 rfl; have b1 := B.c 1 rfl; have f1 := B.f 1 rfl; have bl := B.lt
  by_cases hq : p < n
  · have hpl : p < cs.length := by rw [h.len]; exact hq
    obtain ⟨b, off, rfl, hb, hc⟩ := h.bytes p hpl
    obtain ⟨y0, y1⟩ := h.byte _ (List.getElem_mem hpl)
    have R := fun k => (h.drewN k).put (p + 1) (by omega)
    have hs := h.small
    generalize cs[p] = y at *
    have hne : g ≠ b := by omega
    have i1 : (p : Int) < n := by omega
    clear h B
    go_enter Try.func73, Try.ntmps73
    go_wp2
    go_quiet (fail)
    go_wp2
    go_quiet (fail)
    go_wp2
    go_ret
    exact ⟨_, rfl, ⟨y, rfl, y0, y1⟩, (R _).drewN _, (((Kept.refl _ _).drewN _).set _).drewN _⟩
  · obtain rfl : p = n := by omega
    have hs := h.small
    go_enter Try.func73, Try.ntmps73
    go_wp2
    go_quiet (fail)
    go_wp2
    go_ret
    exact ⟨_, rfl, ⟨0, rfl, by decide, by decide⟩, h.drewN _, (Kept.refl _ _).drewN _⟩
set_option maxRecDepth 100000 in
set_option maxHeartbeats 1000000 in
theorem below_any (m : Int) (h2 : 2 ≤ m) (h256 : m ≤ 256) (g : Nat) (ao : Option Addr) (n cap : Nat) (cs : List Int) (w : World) (h : Rdr w g ao n cap cs) :
    Calls Try.prog 45 #[.pointer (some ⟨g, 0, none⟩), .int .i64 m] w (RdP g ao n cap cs (IsIn 0 m) w) := by
  go_enter Try.func45, Try.ntmps45
  go_wp2_with fail
  all_goals first | (exfalso; omega) | skip
  refine (next_any g ao n cap cs _ h).mono ?_
  rintro e w1 ⟨_, rfl, ⟨x, rfl, x0, x1⟩, R, K⟩
  have hm : m ≠ 0 := by omega
  go_wp2
  go_ret
  exact ⟨_, rfl, ⟨x % m, rfl, Int.emod_nonneg _ hm, Int.emod_lt_of_pos _ (by omega)⟩, R, K⟩
theorem or_word {a b : Int} (ha : Word a) (hb : Word b) : Word (bits .or .u64 a b) := by
  obtain ⟨a0, a1⟩ := ha
  obtain ⟨b0, b1⟩ := hb
  obtain ⟨a, rfl⟩ := Int.eq_ofNat_of_zero_le a0
  obtain ⟨b, rfl⟩ := Int.eq_ofNat_of_zero_le b0
  rw [bits_or_u64_nat a b (by omega) (by omega)]
  have := Nat.or_lt_two_pow (n := 64) (x := a) (y := b) (by omega) (by omega)
  exact ⟨by omega, by omega⟩
def IsWord (v : Value) : Prop := ∃ x : Int, v = .int .u64 x ∧ Word x
def IsBool (v : Value) : Prop := ∃ b, v = .bool b
set_option maxRecDepth 100000 in
set_option maxHeartbeats 1000000 in
theorem once_any (m : Int) (h2 : 2 ≤ m) (h256 : m ≤ 256) (g : Nat) (ao : Option Addr) (n cap : Nat) (cs : List Int) (w : World) (h : Rdr w g ao n cap cs) :
    Calls Try.prog 19 #[.pointer (some ⟨g, 0, none⟩), .int .i64 m] w (RdP g ao n cap cs IsBool w) := by
  go_enter Try.func19, Try.ntmps19
  go_wp2_with fail
  refine (below_any m h2 h256 g ao n cap cs _ h).mono ?_
  rintro e w1 ⟨_, rfl, ⟨x, rfl, x0, x1⟩, R, K⟩
  go_wp2
  go_ret
  exact ⟨_, rfl, ⟨_, rfl⟩, R, K⟩
set_option maxRecDepth 100000 in
set_option maxHeartbeats 1000000 in
theorem word_any (g : Nat) (ao : Option Addr) (n cap : Nat) (cs : List Int) (w : World) (h : Rdr w g ao n cap cs) :
    Calls Try.prog 76 #[.pointer (some ⟨g, 0, none⟩)] w (RdP g ao n cap cs IsWord w) := by
  go_enter Try.func76, Try.ntmps76
  go_wp2
  go_loopw [3, 4] (fun o i wr => ∃ (k : Nat) (x : Int), k ≤ 8 ∧ i = .int .i64 k ∧ o = .int .u64 x ∧ Word x ∧ Rdr wr g ao n cap cs ∧ Kept g w wr) (fun _ i _ => 8 - (intOf i).toNat)
  case atStart => exact ⟨0, 0, by omega, rfl, rfl, ⟨by decide, by decide⟩, h, Kept.refl _ _⟩
  case round =>
    clear h
    obtain ⟨k, x, hk, rfl, rfl, hx, R, K⟩ := hrel
    by_cases hk8 : k < 8
    · have i1 : (k : Int) < 8 := by omega
      go_wp2_with fail
      refine (next_any g ao n cap cs _ R).mono ?_
      rintro e w1 ⟨_, rfl, ⟨y, rfl, y0, y1⟩, R1, K1⟩
      replace K := K.trans K1
      clear R K1
      have hy : IntKind.u64.wrap y = y := by rw [IntKind.wrap_u64]; omega
      have OW := or_word (a := IntKind.u64.wrap (x * 256)) (b := y) (by rw [IntKind.wrap_u64]; exact ⟨by omega, by omega⟩) ⟨y0, by omega⟩
      clear hx
      go_wp2
      go_roundw
      case rel => exact ⟨k + 1, _, by omega, by go_num, rfl, OW, R1, K⟩
      case measure => simp [intOf]; omega
    · obtain rfl : k = 8 := by omega
      go_wp2
      go_ret
      exact ⟨_, rfl, ⟨x, rfl, hx⟩, R, K⟩
theorem Rd.kept {w w' : World} {g : Nat} {ao bo : Option Addr} {n cap : Nat} {cs ds : List Int} (h : Rd w bo ds) (R : Rdr w g ao n cap cs) (K : Kept g w w') : Rd w' bo ds := by
  intro i hi
  obtain ⟨b, off, e, hb, hc⟩ := h i hi
  refine ⟨b, off, e, Nat.lt_of_lt_of_le hb K.size, ?_⟩
  by_cases hg : b = g
  · subst hg
    by_cases h1 : off + i = 1
    · exfalso
      obtain ⟨p, _, B⟩ := R.blk
      have := B.c 1 rfl
      rw [h1, this] at hc
      cases hc
    · exact (K.other _ h1 hb).trans hc
  · exact (World.cell?_of_block (w := w) (K.block b hb hg)).trans hc
theorem IsNum.kept {w w' : World} {g : Nat} {ao bo : Option Addr} {n cap m c : Nat} {cs ds : List Int} {s : Bool} {z : Int} {k : Nat} (h : IsNum w s bo m c ds z k) (R : Rdr w g ao n cap cs) (K : Kept g w w') : IsNum w' s bo m c ds z k :=
  ⟨h.neg, h.len, h.cap, h.rd.kept R K, h.nrm, h.val, h.le⟩
end Go.Proofs.Ytjhmacpejfldoaa

/- Numbers of four words drawn from a code: the walk. -/
namespace Go.Proofs.Ytjhmacpejfldoaa
open Go.RowKit
theorem Rdr.setN {w : World} {g : Nat} {ao : Option Addr} {n cap : Nat} {cs : List Int} (h : Rdr w g ao n cap cs) {p : Addr} (hp : g < p.block) (u : Value) : Rdr (w.setCell p u) g ao n cap cs := by
  obtain ⟨q, hq, B⟩ := h.blk
  refine ⟨⟨q, hq, B.setO (by omega) u⟩, fun i hi => ?_, h.len, h.small, h.byte⟩
  obtain ⟨b, off, e, hb, hc⟩ := h.bytes i hi
  exact ⟨b, off, e, hb, (World.cell?_setCell_other _ _ _ _ (by intro e; rw [e] at hp; simp at hp; omega)).trans hc⟩
theorem Kept.setN {g : Nat} {a b : World} (h : Kept g a b) {p : Addr} (hp : a.heap.size ≤ p.block) (hg : g ≠ p.block) (u : Value) : Kept g a (b.setCell p u) :=
  ⟨h.os, h.tape, h.output, by simpa [World.setCell] using h.size, fun k hk hne => (Below.heap_setCell _ _ _ _ (by omega)).trans (h.block k hk hne), fun j hj hl => (World.cell?_setCell_other _ _ _ _ (by intro e; rw [e] at hg; exact hg rfl)).trans (h.other j hj hl)⟩
end Go.Proofs.Ytjhmacpejfldoaa

/- Two numbers drawn from a code: the walks. -/
namespace Go.Proofs.Ytjhmacpejfldoaa
open Go.RowKit
/-- The code as it lies: so many bytes. -/
structure Code (w : World) (ao : Option Addr) (n : Nat) (cs : List Int) : Prop where
  bytes : ∀ i, (h : i < cs.length) → ∃ b off, ao = some ⟨b, off, none⟩ ∧ b < w.heap.size ∧ w.cell? ⟨b, off + i, none⟩ = some (.int .u8 cs[i])
  len : cs.length = n
  small : n ≤ 1048576
  byte : ∀ c ∈ cs, 0 ≤ c ∧ c < 256
theorem Code.below {w w' : World} {ao : Option Addr} {n : Nat} {cs : List Int} (h : Code w ao n cs) (hB : Below w.heap.size w w') : Code w' ao n cs := by
  refine ⟨fun i hi => ?_, h.len, h.small, h.byte⟩
  obtain ⟨b, off, e, hb, hc⟩ := h.bytes i hi
  exact ⟨b, off, e, Nat.lt_of_lt_of_le hb hB.size, (hB.cell (p := ⟨b, off + i, none⟩) hb).trans hc⟩
def OpenP (ao : Option Addr) (n cap : Nat) (cs : List Int) (w : World) (e : Ending) (w' : World) : Prop := ∃ G, e = .returned (.pointer (some ⟨G, 0, none⟩)) ∧ w.heap.size ≤ G ∧ Rdr w' G ao n cap cs ∧ Below w.heap.size w w'
theorem open_any (ao : Option Addr) (n cap : Nat) (cs : List Int) (w : World) (h : Code w ao n cs) :
    Calls Try.prog 17 #[.slice ao n cap] w (OpenP ao n cap cs w) := by
  go_enter Try.func17, Try.ntmps17
  go_wp2
  go_ret
  refine ⟨w.heap.size, rfl, Nat.le_refl _, ⟨⟨0, Nat.zero_le _, Blk.new w [.slice ao n cap, .int .i64 0] 85 rfl⟩, fun i hi => ?_, h.len, h.small, h.byte⟩, (Below.refl _ _).alloc (Nat.le_refl _) _⟩
  obtain ⟨b, off, e, hb, hc⟩ := h.bytes i hi
  exact ⟨b, off, e, hb, cell_alloc hb hc⟩
end Go.Proofs.Ytjhmacpejfldoaa
