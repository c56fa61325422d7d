/- The program's quotient of two numbers of four words: what lies in memory around the division. -/
import Derived.Test.YtddniklhpkagmaaDivR
namespace Go.Proofs.Ytddniklhpkagmaa
open Go.RowKit
theorem ArgsB.set8 {w W : World} {a b c d : List Value} (h : ArgsB w W [a, b, c, d]) {g : Nat} (hg : w.heap.size + 3 < g) (v0 v1 v2 v3 v4 v5 v6 v7 : Value) : ArgsB w ((((((((W.setCell ⟨g, 0, none⟩ v0).setCell ⟨g, 1, none⟩ v1).setCell ⟨g, 2, none⟩ v2).setCell ⟨g, 3, none⟩ v3).setCell ⟨g, 4, none⟩ v4).setCell ⟨g, 5, none⟩ v5).setCell ⟨g, 6, none⟩ v6).setCell ⟨g, 7, none⟩ v7) [a, b, c, d] :=
  ((((((((h.set (by exact hg) _).set (by exact hg) _).set (by exact hg) _).set (by exact hg) _).set (by exact hg) _).set (by exact hg) _).set (by exact hg) _).set (by exact hg) _)
theorem divL_det (x0 x1 x2 x3 x4 x5 x6 x7 y0 y1 y2 y3 y4 y5 y6 y7 q0 q1 q2 q3 q4 q5 q6 q7 r0 r1 r2 r3 r4 r5 r6 r7 : Int) (wx : Words [x0, x1, x2, x3, x4, x5, x6, x7]) (wy : Words [y0, y1, y2, y3, y4, y5, y6, y7]) (wq : Words [q0, q1, q2, q3, q4, q5, q6, q7]) (wr : Words [r0, r1, r2, r3, r4, r5, r6, r7]) (h0 : 0 < val64 [y0, y1, y2, y3, y4, y5, y6, y7]) (hq : val64 [q0, q1, q2, q3, q4, q5, q6, q7] = val64 [x0, x1, x2, x3, x4, x5, x6, x7] / val64 [y0, y1, y2, y3, y4, y5, y6, y7]) (hr : val64 [r0, r1, r2, r3, r4, r5, r6, r7] = val64 [x0, x1, x2, x3, x4, x5, x6, x7] % val64 [y0, y1, y2, y3, y4, y5, y6, y7]) (w : World) : Calls Try.prog 57 #[L8 x0 x1 x2 x3 x4 x5 x6 x7, L8 y0 y1 y2 y3 y4 y5 y6 y7] w (VP (.tuple #[L8 q0 q1 q2 q3 q4 q5 q6 q7, L8 r0 r1 r2 r3 r4 r5 r6 r7]) w) := by
  refine (divideLong_any [x0, x1, x2, x3, x4, x5, x6, x7] [y0, y1, y2, y3, y4, y5, y6, y7] rfl rfl wx wy h0 w).mono ?_
  rintro e w1 ⟨qs, rs, rfl, ql, rl, qw, rw', qv, rv, hB⟩
  obtain rfl : qs = [q0, q1, q2, q3, q4, q5, q6, q7] := val64_inj qw wq (ql.trans rfl) (qv.trans hq.symm)
  obtain rfl : rs = [r0, r1, r2, r3, r4, r5, r6, r7] := val64_inj rw' wr (rl.trans rfl) (rv.trans hr.symm)
  exact ⟨rfl, hB⟩
end Go.Proofs.Ytddniklhpkagmaa
