/- The walk of the program's common divisor of two numbers of four words. -/
import Derived.Test.YtddniklhpkagmaaDivG
import Derived.Test.YtddniklhpkagmaaBase3
import Derived.Test.YtddniklhpkagmaaBase4
namespace Go.Proofs.Ytddniklhpkagmaa
open Go.RowKit
theorem ig_args (a3 a2 a1 a0 b3 b2 b1 b0 : Int) (w : World) : ArgsB w (((w.alloc (.cells #[.int .u64 a3, .int .u64 a2, .int .u64 a1, .int .u64 a0] 25)).alloc (.cells #[.int .u64 b3, .int .u64 b2, .int .u64 b1, .int .u64 b0] 25)).alloc (.cells #[.int .u64 0, .int .u64 0, .int .u64 0, .int .u64 0] 25)) [[.int .u64 a3, .int .u64 a2, .int .u64 a1, .int .u64 a0], [.int .u64 b3, .int .u64 b2, .int .u64 b1, .int .u64 b0], [.int .u64 0, .int .u64 0, .int .u64 0, .int .u64 0]] := by
  refine ⟨(((Below.refl _ _).alloc (Nat.le_refl _) _).alloc (by simp) _).alloc (by simp; omega) _, fun j vs hj => ?_⟩
  match j, hj with
  | 0, hj => cases hj; exact ((Blk.new w [.int .u64 a3, .int .u64 a2, .int .u64 a1, .int .u64 a0] 25 rfl).alloc _).alloc _
  | 1, hj => cases hj; exact (Blk.new (w.alloc (.cells #[.int .u64 a3, .int .u64 a2, .int .u64 a1, .int .u64 a0] 25)) [.int .u64 b3, .int .u64 b2, .int .u64 b1, .int .u64 b0] 25 (by simp)).alloc _
  | 2, hj => cases hj; exact Blk.new ((w.alloc (.cells #[.int .u64 a3, .int .u64 a2, .int .u64 a1, .int .u64 a0] 25)).alloc (.cells #[.int .u64 b3, .int .u64 b2, .int .u64 b1, .int .u64 b0] 25)) [.int .u64 0, .int .u64 0, .int .u64 0, .int .u64 0] 25 (by simp)
  | j + 3, hj => simp at hj
theorem sl_fill (a3 a2 a1 a0 : Int) : sl a0 a1 a2 a3 (fillW a3) (fillW a3) (fillW a3) (fillW a3) = sw a3 a2 a1 a0 := by
  unfold sl fillW sw uw
  simp only [val64]
  by_cases p : a3 < 9223372036854775808
  · simp only [if_pos p]
    rw [if_pos (by decide)]
    omega
  · simp only [if_neg p]
    rw [if_neg (by decide)]
    omega
theorem words_fill {a3 a2 a1 a0 : Int} (h3 : Word a3) (h2 : Word a2) (h1 : Word a1) (h0 : Word a0) : Words [a0, a1, a2, a3, fillW a3, fillW a3, fillW a3, fillW a3] := by
  have hf : Word (fillW a3) := by unfold fillW; split <;> exact ⟨by decide, by decide⟩
  exact words_cons.2 ⟨h0, words_cons.2 ⟨h1, words_cons.2 ⟨h2, words_cons.2 ⟨h3, words_cons.2 ⟨hf, words_cons.2 ⟨hf, words_cons.2 ⟨hf, words_cons.2 ⟨hf, words_nil⟩⟩⟩⟩⟩⟩⟩⟩
theorem ig_cells {a3 a2 a1 a0 b3 b2 b1 b0 : Int} {w W : World} (h : ArgsB w W [[.int .u64 a3, .int .u64 a2, .int .u64 a1, .int .u64 a0], [.int .u64 b3, .int .u64 b2, .int .u64 b1, .int .u64 b0], [.int .u64 0, .int .u64 0, .int .u64 0, .int .u64 0]]) : (fun w' => w'.cell? ⟨w.heap.size, 0, none⟩ = some (.int .u64 a3) ∧ w'.cell? ⟨w.heap.size, 1, none⟩ = some (.int .u64 a2) ∧ w'.cell? ⟨w.heap.size, 2, none⟩ = some (.int .u64 a1) ∧ w'.cell? ⟨w.heap.size, 3, none⟩ = some (.int .u64 a0) ∧ w'.cell? ⟨w.heap.size + 1, 0, none⟩ = some (.int .u64 b3) ∧ w'.cell? ⟨w.heap.size + 1, 1, none⟩ = some (.int .u64 b2) ∧ w'.cell? ⟨w.heap.size + 1, 2, none⟩ = some (.int .u64 b1) ∧ w'.cell? ⟨w.heap.size + 1, 3, none⟩ = some (.int .u64 b0)) W :=
  ⟨(h.b 0 rfl).c 0 rfl, (h.b 0 rfl).c 1 rfl, (h.b 0 rfl).c 2 rfl, (h.b 0 rfl).c 3 rfl, (h.b 1 rfl).c 0 rfl, (h.b 1 rfl).c 1 rfl, (h.b 1 rfl).c 2 rfl, (h.b 1 rfl).c 3 rfl⟩
theorem ig_cells4 {a3 a2 a1 a0 b3 b2 b1 b0 : Int} {w W : World} {v0 v1 v2 v3 : Value} (h : ArgsB w W [[.int .u64 a3, .int .u64 a2, .int .u64 a1, .int .u64 a0], [.int .u64 b3, .int .u64 b2, .int .u64 b1, .int .u64 b0], [.int .u64 0, .int .u64 0, .int .u64 0, .int .u64 0]]) : (fun w' => w'.cell? ⟨w.heap.size, 0, none⟩ = some (.int .u64 a3) ∧ w'.cell? ⟨w.heap.size, 1, none⟩ = some (.int .u64 a2) ∧ w'.cell? ⟨w.heap.size, 2, none⟩ = some (.int .u64 a1) ∧ w'.cell? ⟨w.heap.size, 3, none⟩ = some (.int .u64 a0) ∧ w'.cell? ⟨w.heap.size + 1, 0, none⟩ = some (.int .u64 b3) ∧ w'.cell? ⟨w.heap.size + 1, 1, none⟩ = some (.int .u64 b2) ∧ w'.cell? ⟨w.heap.size + 1, 2, none⟩ = some (.int .u64 b1) ∧ w'.cell? ⟨w.heap.size + 1, 3, none⟩ = some (.int .u64 b0)) ((((W.setCell ⟨w.heap.size + 1 + 1, 0, none⟩ v0).setCell ⟨w.heap.size + 1 + 1, 1, none⟩ v1).setCell ⟨w.heap.size + 1 + 1, 2, none⟩ v2).setCell ⟨w.heap.size + 1 + 1, 3, none⟩ v3) := by
  have A : Blk ((((W.setCell ⟨w.heap.size + 1 + 1, 0, none⟩ v0).setCell ⟨w.heap.size + 1 + 1, 1, none⟩ v1).setCell ⟨w.heap.size + 1 + 1, 2, none⟩ v2).setCell ⟨w.heap.size + 1 + 1, 3, none⟩ v3) (w.heap.size + 0) _ := (h.b 0 rfl).set4 (by omega)
  have B : Blk ((((W.setCell ⟨w.heap.size + 1 + 1, 0, none⟩ v0).setCell ⟨w.heap.size + 1 + 1, 1, none⟩ v1).setCell ⟨w.heap.size + 1 + 1, 2, none⟩ v2).setCell ⟨w.heap.size + 1 + 1, 3, none⟩ v3) (w.heap.size + 1) _ := (h.b 1 rfl).set4 (by omega)
  exact ⟨A.c 0 rfl, A.c 1 rfl, A.c 2 rfl, A.c 3 rfl, B.c 0 rfl, B.c 1 rfl, B.c 2 rfl, B.c 3 rfl⟩
theorem gcd_small {x y : Int} {z0 z1 z2 z3 z4 z5 z6 z7 : Int} (hz : Words [z0, z1, z2, z3, z4, z5, z6, z7]) (hv : val64 [z0, z1, z2, z3, z4, z5, z6, z7] = (Int.gcd ((x.natAbs : Int)) ((y.natAbs : Int)) : Int)) (hx : (x.natAbs : Int) ≤ 57896044618658097711785492504343953926634992332820282019728792003956564819968) (hy : (y.natAbs : Int) ≤ 57896044618658097711785492504343953926634992332820282019728792003956564819968) : sl z0 z1 z2 z3 z4 z5 z6 z7 = (Int.gcd x y : Int) := by
  have e : Int.gcd ((x.natAbs : Int)) ((y.natAbs : Int)) = Int.gcd x y := by simp [Int.gcd]
  rw [e] at hv
  have hb : (Int.gcd x y : Int) ≤ 57896044618658097711785492504343953926634992332820282019728792003956564819968 := by
    by_cases h0 : x = 0
    · subst h0
      simp
      exact hy
    · have : Int.gcd x y ≤ x.natAbs := Nat.le_of_dvd (by omega) (Nat.gcd_dvd_left _ _)
      omega
  obtain ⟨t1, t2, t3⟩ := sl_top hz
  unfold sl
  rw [if_pos (t1.2 (by omega)), hv]
  omega
set_option maxRecDepth 100000 in
set_option maxHeartbeats 2000000 in
theorem implGcd_any (a3 a2 a1 a0 b3 b2 b1 b0 : Int) (h3 : Word a3) (h2 : Word a2) (h1 : Word a1) (h0 : Word a0) (k3 : Word b3) (k2 : Word b2) (k1 : Word b1) (k0 : Word b0) (w : World) :
    Calls Try.prog 24 #[.agg #[.int .u64 a3, .int .u64 a2, .int .u64 a1, .int .u64 a0], .agg #[.int .u64 b3, .int .u64 b2, .int .u64 b1, .int .u64 b0]] w (TellP (Int.gcd (sw a3 a2 a1 a0) (sw b3 b2 b1 b0) : Int) w) := by
  have T0 := ig_args a3 a2 a1 a0 b3 b2 b1 b0 w
  have wa := words_fill h3 h2 h1 h0
  have wb := words_fill k3 k2 k1 k0
  have sa := sl_fill a3 a2 a1 a0
  have sb := sl_fill b3 b2 b1 b0
  have za := sw_size h3 h2 h1 h0
  have zb := sw_size k3 k2 k1 k0
  have tok1 : True := trivial
  have tok2 : True := trivial
  go_enter Try.func24, Try.ntmps24
  go_wp2_with fail
  generalize (((w.alloc (.cells #[.int .u64 a3, .int .u64 a2, .int .u64 a1, .int .u64 a0] 25)).alloc (.cells #[.int .u64 b3, .int .u64 b2, .int .u64 b1, .int .u64 b0] 25)).alloc (.cells #[.int .u64 0, .int .u64 0, .int .u64 0, .int .u64 0] 25)) = W at *
  go_region_held3 (fun w' => w'.cell? ⟨w.heap.size, 0, none⟩ = some (.int .u64 a3) ∧ w'.cell? ⟨w.heap.size, 1, none⟩ = some (.int .u64 a2) ∧ w'.cell? ⟨w.heap.size, 2, none⟩ = some (.int .u64 a1) ∧ w'.cell? ⟨w.heap.size, 3, none⟩ = some (.int .u64 a0) ∧ w'.cell? ⟨w.heap.size + 1, 0, none⟩ = some (.int .u64 b3) ∧ w'.cell? ⟨w.heap.size + 1, 1, none⟩ = some (.int .u64 b2) ∧ w'.cell? ⟨w.heap.size + 1, 2, none⟩ = some (.int .u64 b1) ∧ w'.cell? ⟨w.heap.size + 1, 3, none⟩ = some (.int .u64 b0)) (first | (with_reducible exact ig_cells T0) | (with_reducible exact ig_cells T0.drew) | (with_reducible exact ig_cells4 T0) | (with_reducible exact ig_cells4 T0.drew))
    (first
      | (go_at_call 55; have _t := tok1; refine (longOf_any a3 a2 a1 a0 h3 _).mono ?_; rintro e w1 ⟨rfl, hB⟩; (first | (have T1 : ArgsB w w1 [[.int .u64 a3, .int .u64 a2, .int .u64 a1, .int .u64 a0], [.int .u64 b3, .int .u64 b2, .int .u64 b1, .int .u64 b0], [.int .u64 0, .int .u64 0, .int .u64 0, .int .u64 0]] := (by with_reducible exact T0.step hB)) | (have T1 : ArgsB w w1 [[.int .u64 a3, .int .u64 a2, .int .u64 a1, .int .u64 a0], [.int .u64 b3, .int .u64 b2, .int .u64 b1, .int .u64 b0], [.int .u64 0, .int .u64 0, .int .u64 0, .int .u64 0]] := (by with_reducible exact T0.drew.step hB))); clear T0; have T0 := T1; clear T1 hB; clear tok1 _t)
      | (go_at_call 55; refine (longOf_any b3 b2 b1 b0 k3 _).mono ?_; rintro e w2 ⟨rfl, hB⟩; (first | (have T1 : ArgsB w w2 [[.int .u64 a3, .int .u64 a2, .int .u64 a1, .int .u64 a0], [.int .u64 b3, .int .u64 b2, .int .u64 b1, .int .u64 b0], [.int .u64 0, .int .u64 0, .int .u64 0, .int .u64 0]] := (by with_reducible exact T0.step hB)) | (have T1 : ArgsB w w2 [[.int .u64 a3, .int .u64 a2, .int .u64 a1, .int .u64 a0], [.int .u64 b3, .int .u64 b2, .int .u64 b1, .int .u64 b0], [.int .u64 0, .int .u64 0, .int .u64 0, .int .u64 0]] := (by with_reducible exact T0.drew.step hB))); clear T0; have T0 := T1; clear T1 hB)
      | (go_at_call 56; have _t := tok2; refine (sizeL_any a0 a1 a2 a3 (fillW a3) (fillW a3) (fillW a3) (fillW a3) wa _).mono ?_; rintro e w3 ⟨us, rfl, ul, uw', uv, hB⟩; obtain ⟨u0, u1, u2, u3, u4, u5, u6, u7, rfl⟩ := list8' ul; rw [sa] at uv; (first | (have T1 : ArgsB w w3 [[.int .u64 a3, .int .u64 a2, .int .u64 a1, .int .u64 a0], [.int .u64 b3, .int .u64 b2, .int .u64 b1, .int .u64 b0], [.int .u64 0, .int .u64 0, .int .u64 0, .int .u64 0]] := (by with_reducible exact T0.step hB)) | (have T1 : ArgsB w w3 [[.int .u64 a3, .int .u64 a2, .int .u64 a1, .int .u64 a0], [.int .u64 b3, .int .u64 b2, .int .u64 b1, .int .u64 b0], [.int .u64 0, .int .u64 0, .int .u64 0, .int .u64 0]] := (by with_reducible exact T0.drew.step hB))); clear T0; have T0 := T1; clear T1 hB; clear tok2 _t)
      | (go_at_call 56; refine (sizeL_any b0 b1 b2 b3 (fillW b3) (fillW b3) (fillW b3) (fillW b3) wb _).mono ?_; rintro e w4 ⟨vs, rfl, vl, vw, vv, hB⟩; obtain ⟨v0, v1, v2, v3, v4, v5, v6, v7, rfl⟩ := list8' vl; rw [sb] at vv; (first | (have T1 : ArgsB w w4 [[.int .u64 a3, .int .u64 a2, .int .u64 a1, .int .u64 a0], [.int .u64 b3, .int .u64 b2, .int .u64 b1, .int .u64 b0], [.int .u64 0, .int .u64 0, .int .u64 0, .int .u64 0]] := (by with_reducible exact T0.step hB)) | (have T1 : ArgsB w w4 [[.int .u64 a3, .int .u64 a2, .int .u64 a1, .int .u64 a0], [.int .u64 b3, .int .u64 b2, .int .u64 b1, .int .u64 b0], [.int .u64 0, .int .u64 0, .int .u64 0, .int .u64 0]] := (by with_reducible exact T0.drew.step hB))); clear T0; have T0 := T1; clear T1 hB)
      | (go_at_call 63; refine (gcdL_any [u0, u1, u2, u3, u4, u5, u6, u7] [v0, v1, v2, v3, v4, v5, v6, v7] rfl rfl uw' vw _).mono ?_; rintro e w5 ⟨gs, rfl, gl, gw, gv, hB⟩; obtain ⟨g0, g1, g2, g3, g4, g5, g6, g7, rfl⟩ := list8' gl; rw [uv, vv] at gv; (first | (have T1 : ArgsB w w5 [[.int .u64 a3, .int .u64 a2, .int .u64 a1, .int .u64 a0], [.int .u64 b3, .int .u64 b2, .int .u64 b1, .int .u64 b0], [.int .u64 0, .int .u64 0, .int .u64 0, .int .u64 0]] := (by with_reducible exact T0.step hB)) | (have T1 : ArgsB w w5 [[.int .u64 a3, .int .u64 a2, .int .u64 a1, .int .u64 a0], [.int .u64 b3, .int .u64 b2, .int .u64 b1, .int .u64 b0], [.int .u64 0, .int .u64 0, .int .u64 0, .int .u64 0]] := (by with_reducible exact T0.drew.step hB))); clear T0; have T0 := T1; clear T1 hB)
      | (go_at_call 52; refine (tellWide_any g0 g1 g2 g3 g4 g5 g6 g7 gw _).mono ?_; intro e w6 hT; (first | (have hTT := tellP_from T0.below hT; have hB := hT.1; (first | (have T1 : ArgsB w w6 [[.int .u64 a3, .int .u64 a2, .int .u64 a1, .int .u64 a0], [.int .u64 b3, .int .u64 b2, .int .u64 b1, .int .u64 b0], [.int .u64 0, .int .u64 0, .int .u64 0, .int .u64 0]] := (by with_reducible exact T0.step hB)) | (have T1 : ArgsB w w6 [[.int .u64 a3, .int .u64 a2, .int .u64 a1, .int .u64 a0], [.int .u64 b3, .int .u64 b2, .int .u64 b1, .int .u64 b0], [.int .u64 0, .int .u64 0, .int .u64 0, .int .u64 0]] := (by with_reducible exact T0.drew.step hB))); clear T0; have T0 := T1; clear T1 hB) | (have hTT := tellP_from T0.drew.below hT; have hB := hT.1; (first | (have T1 : ArgsB w w6 [[.int .u64 a3, .int .u64 a2, .int .u64 a1, .int .u64 a0], [.int .u64 b3, .int .u64 b2, .int .u64 b1, .int .u64 b0], [.int .u64 0, .int .u64 0, .int .u64 0, .int .u64 0]] := (by with_reducible exact T0.step hB)) | (have T1 : ArgsB w w6 [[.int .u64 a3, .int .u64 a2, .int .u64 a1, .int .u64 a0], [.int .u64 b3, .int .u64 b2, .int .u64 b1, .int .u64 b0], [.int .u64 0, .int .u64 0, .int .u64 0, .int .u64 0]] := (by with_reducible exact T0.drew.step hB))); clear T0; have T0 := T1; clear T1 hB)); obtain ⟨x3, x2, x1, x0, p, rfl⟩ := tellP_shape hT; have c0 := (T0.b 2 rfl).c 0 rfl; have f0 := (T0.b 2 rfl).f 0 rfl; have c1 := (T0.b 2 rfl).c 1 rfl; have f1 := (T0.b 2 rfl).f 1 rfl; have c2 := (T0.b 2 rfl).c 2 rfl; have f2 := (T0.b 2 rfl).f 2 rfl; have c3 := (T0.b 2 rfl).c 3 rfl; have f3 := (T0.b 2 rfl).f 3 rfl; have lt := (T0.b 2 rfl).lt; clear hT))
  all_goals rw [gcd_small gw gv za zb] at hTT
  all_goals clear T0
  all_goals go_wp2
  all_goals refine bodyPost_ret (v := .tuple #[.agg #[.int .u64 x3, .int .u64 x2, .int .u64 x1, .int .u64 x0], .bool p]) (by simp [results, Try.results24, go_sem, c0, c1, c2, c3]) rfl ?_
  all_goals first | exact tellP_set (by omega) hTT | exact tellP_drew (tellP_set (by omega) hTT)
end Go.Proofs.Ytddniklhpkagmaa
