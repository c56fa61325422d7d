/- Part 6 of the walks that the proof leans on. -/
import Derived.Test.YtnnojeggjnddpaaPart5
import Derived.Test.YtnnojeggjnddpaaPart3
import Derived.Test.YtnnojeggjnddpaaPart1
import Derived.Test.YtnnojeggjnddpaaPart2
import Derived.Deep.RegionHeld3
import Derived.Test.YtnnojeggjnddpaaPart4
import Derived.Deep.DeepCutAuto
import Derived.Deep.RegionWith
import Derived.Lib.Bytealg
import Derived.WalkLawsBesides
/- The walk of the program's common divisor of two numbers of four words. -/
namespace Go.Proofs.Ytnnojeggjnddpaa
open Go.RowKit
theorem ig_args (a3 a2 a1 a0 b3 b2 b1 b0 : Int) (w : World) : ArgsB w (((w.alloc (.cells #[.int .u64 a3, .int .u64 a2, .int .u64 a1, .int .u64 a0] 26)).alloc (.cells #[.int .u64 b3, .int .u64 b2, .int .u64 b1, .int .u64 b0] 26)).alloc (.cells #[.int .u64 0, .int .u64 0, .int .u64 0, .int .u64 0] 26)) [[.int .u64 a3, .int .u64 a2, .int .u64 a1, .int .u64 a0], [.int .u64 b3, .int .u64 b2, .int .u64 b1, .int .u64 b0], [.int .u64 0, .int .u64 0, .int .u64 0, .int .u64 0]] := by
  refine ⟨(((Below.refl _ _).alloc (Nat.le_refl _) _).alloc (by simp) _).alloc (by simp; omega) _, fun j vs hj => ?_⟩
  match j, hj with
  | 0, hj => cases hj; exact ((Blk.new w [.int .u64 a3, .int .u64 a2, .int .u64 a1, .int .u64 a0] 26 rfl).alloc _).alloc _
  | 1, hj => cases hj; exact (Blk.new (w.alloc (.cells #[.int .u64 a3, .int .u64 a2, .int .u64 a1, .int .u64 a0] 26)) [.int .u64 b3, .int .u64 b2, .int .u64 b1, .int .u64 b0] 26 (by simp)).alloc _
  | 2, hj => cases hj; exact Blk.new ((w.alloc (.cells #[.int .u64 a3, .int .u64 a2, .int .u64 a1, .int .u64 a0] 26)).alloc (.cells #[.int .u64 b3, .int .u64 b2, .int .u64 b1, .int .u64 b0] 26)) [.int .u64 0, .int .u64 0, .int .u64 0, .int .u64 0] 26 (by simp)
  | j + 3, hj => simp at hj
theorem sl_fill (a3 a2 a1 a0 : Int) : sl a0 a1 a2 a3 (fillW a3) (fillW a3) (fillW a3) (fillW a3) = sw a3 a2 a1 a0 := by
  unfold sl fillW sw uw
  simp only [val64]
  by_cases p : a3 < 9223372036854775808
  · simp only [if_pos p]
    rw [if_pos (by decide)]
    omega
  · simp only [if_neg p]
    rw [if_neg (by decide)]
    omega
theorem words_fill {a3 a2 a1 a0 : Int} (h3 : Word a3) (h2 : Word a2) (h1 : Word a1) (h0 : Word a0) : Words [a0, a1, a2, a3, fillW a3, fillW a3, fillW a3, fillW a3] := by
  have hf : Word (fillW a3) := by unfold fillW; split <;> exact ⟨by decide, by decide⟩
  exact words_cons.2 ⟨h0, words_cons.2 ⟨h1, words_cons.2 ⟨h2, words_cons.2 ⟨h3, words_cons.2 ⟨hf, words_cons.2 ⟨hf, words_cons.2 ⟨hf, words_cons.2 ⟨hf, words_nil⟩⟩⟩⟩⟩⟩⟩⟩
theorem ig_cells {a3 a2 a1 a0 b3 b2 b1 b0 : Int} {w W : World} (h : ArgsB w W [[.int .u64 a3, .int .u64 a2, .int .u64 a1, .int .u64 a0], [.int .u64 b3, .int .u64 b2, .int .u64 b1, .int .u64 b0], [.int .u64 0, .int .u64 0, .int .u64 0, .int .u64 0]]) : (fun w' => w'.cell? ⟨w.heap.size, 0, none⟩ = some (.int .u64 a3) ∧ w'.cell? ⟨w.heap.size, 1, none⟩ = some (.int .u64 a2) ∧ w'.cell? ⟨w.heap.size, 2, none⟩ = some (.int .u64 a1) ∧ w'.cell? ⟨w.heap.size, 3, none⟩ = some (.int .u64 a0) ∧ w'.cell? ⟨w.heap.size + 1, 0, none⟩ = some (.int .u64 b3) ∧ w'.cell? ⟨w.heap.size + 1, 1, none⟩ = some (.int .u64 b2) ∧ w'.cell? ⟨w.heap.size + 1, 2, none⟩ = some (.int .u64 b1) ∧ w'.cell? ⟨w.heap.size + 1, 3, none⟩ = some (.int .u64 b0)) W :=
  ⟨(h.b 0 rfl).c 0 rfl, (h.b 0 rfl).c 1 rfl, (h.b 0 rfl).c 2 rfl, (h.b 0 rfl).c 3 rfl, (h.b 1 rfl).c 0 rfl, (h.b 1 rfl).c 1 rfl, (h.b 1 rfl).c 2 rfl, (h.b 1 rfl).c 3 rfl⟩
theorem ig_cells4 {a3 a2 a1 a0 b3 b2 b1 b0 : Int} {w W : World} {v0 v1 v2 v3 : Value} (h : ArgsB w W [[.int .u64 a3, .int .u64 a2, .int .u64 a1, .int .u64 a0], [.int .u64 b3, .int .u64 b2, .int .u64 b1, .int .u64 b0], [.int .u64 0, .int .u64 0, .int .u64 0, .int .u64 0]]) : (fun w' => w'.cell? ⟨w.heap.size, 0, none⟩ = some (.int .u64 a3) ∧ w'.cell? ⟨w.heap.size, 1, none⟩ = some (.int .u64 a2) ∧ w'.cell? ⟨w.heap.size, 2, none⟩ = some (.int .u64 a1) ∧ w'.cell? ⟨w.heap.size, 3, none⟩ = some (.int .u64 a0) ∧ w'.cell? ⟨w.heap.size + 1, 0, none⟩ = some (.int .u64 b3) ∧ w'.cell? ⟨w.heap.size + 1, 1, none⟩ = some (.int .u64 b2) ∧ w'.cell? ⟨w.heap.size + 1, 2, none⟩ = some (.int .u64 b1) ∧ w'.cell? ⟨w.heap.size + 1, 3, none⟩ = some (.int .u64 b0)) ((((W.setCell ⟨w.heap.size + 1 + 1, 0, none⟩ v0).setCell ⟨w.heap.size + 1 + 1, 1, none⟩ v1).setCell ⟨w.heap.size + 1 + 1, 2, none⟩ v2).setCell ⟨w.heap.size + 1 + 1, 3, none⟩ v3) := by
  have A : Blk ((((W.setCell ⟨w.heap.size + 1 + 1, 0, none⟩ v0).setCell ⟨w.heap.size + 1 + 1, 1, none⟩ v1).setCell ⟨w.heap.size + 1 + 1, 2, none⟩ v2).setCell ⟨w.heap.size + 1 + 1, 3, none⟩ v3) (w.heap.size + 0) _ := (h.b 0 rfl).set4 (by omega)
  have B : Blk ((((W.setCell ⟨w.heap.size + 1 + 1, 0, none⟩ v0).setCell ⟨w.heap.size + 1 + 1, 1, none⟩ v1).setCell ⟨w.heap.size + 1 + 1, 2, none⟩ v2).setCell ⟨w.heap.size + 1 + 1, 3, none⟩ v3) (w.heap.size + 1) _ := (h.b 1 rfl).set4 (by omega)
  exact ⟨A.c 0 rfl, A.c 1 rfl, A.c 2 rfl, A.c 3 rfl, B.c 0 rfl, B.c 1 rfl, B.c 2 rfl, B.c 3 rfl⟩
theorem gcd_small {x y : Int} {z0 z1 z2 z3 z4 z5 z6 z7 : Int} (hz : Words [z0, z1, z2, z3, z4, z5, z6, z7]) (hv : val64 [z0, z1, z2, z3, z4, z5, z6, z7] = (Int.gcd ((x.natAbs : Int)) ((y.natAbs : Int)) : Int)) (hx : (x.natAbs : Int) ≤ 57896044618658097711785492504343953926634992332820282019728792003956564819968) (hy : (y.natAbs : Int) ≤ 57896044618658097711785492504343953926634992332820282019728792003956564819968) : sl z0 z1 z2 z3 z4 z5 z6 z7 = (Int.gcd x y : Int) := by
  have e : Int.gcd ((x.natAbs : Int)) ((y.natAbs : Int)) = Int.gcd x y := by simp [Int.gcd]
  rw [e] at hv
  have hb : (Int.gcd x y : Int) ≤ 57896044618658097711785492504343953926634992332820282019728792003956564819968 := by
    by_cases h0 : x = 0
    · subst h0
      simp
      exact hy
    · have : Int.gcd x y ≤ x.natAbs := Nat.le_of_dvd (by omega) (Nat.gcd_dvd_left _ _)
      omega
  obtain ⟨t1, t2, t3⟩ := sl_top hz
  unfold sl
  rw [if_pos (t1.2 (by omega)), hv]
  omega
set_option maxRecDepth 100000 in
set_option maxHeartbeats 2000000 in
theorem implGcd_any (a3 a2 a1 a0 b3 b2 b1 b0 : Int) (h3 : Word a3) (h2 : Word a2) (h1 : Word a1) (h0 : Word a0) (k3 : Word b3) (k2 : Word b2) (k1 : Word b1) (k0 : Word b0) (w : World) :
    Calls Try.prog 94 #[.agg #[.int .u64 a3, .int .u64 a2, .int .u64 a1, .int .u64 a0], .agg #[.int .u64 b3, .int .u64 b2, .int .u64 b1, .int .u64 b0]] w (TellP (Int.gcd (sw a3 a2 a1 a0) (sw b3 b2 b1 b0) : Int) w) := by
  have T0 := ig_args a3 a2 a1 a0 b3 b2 b1 b0 w
  have wa := words_fill h3 h2 h1 h0
  have wb := words_fill k3 k2 k1 k0
  have sa := sl_fill a3 a2 a1 a0
  have sb := sl_fill b3 b2 b1 b0
  have za := sw_size h3 h2 h1 h0
  have zb := sw_size k3 k2 k1 k0
  have tok1 : True := trivial
  have tok2 : True := trivial
  go_enter Try.func94, Try.ntmps94
  go_wp2_with fail
  generalize (((w.alloc (.cells #[.int .u64 a3, .int .u64 a2, .int .u64 a1, .int .u64 a0] 26)).alloc (.cells #[.int .u64 b3, .int .u64 b2, .int .u64 b1, .int .u64 b0] 26)).alloc (.cells #[.int .u64 0, .int .u64 0, .int .u64 0, .int .u64 0] 26)) = W at *
  go_region_held3 (fun w' => w'.cell? ⟨w.heap.size, 0, none⟩ = some (.int .u64 a3) ∧ w'.cell? ⟨w.heap.size, 1, none⟩ = some (.int .u64 a2) ∧ w'.cell? ⟨w.heap.size, 2, none⟩ = some (.int .u64 a1) ∧ w'.cell? ⟨w.heap.size, 3, none⟩ = some (.int .u64 a0) ∧ w'.cell? ⟨w.heap.size + 1, 0, none⟩ = some (.int .u64 b3) ∧ w'.cell? ⟨w.heap.size + 1, 1, none⟩ = some (.int .u64 b2) ∧ w'.cell? ⟨w.heap.size + 1, 2, none⟩ = some (.int .u64 b1) ∧ w'.cell? ⟨w.heap.size + 1, 3, none⟩ = some (.int .u64 b0)) (first | (with_reducible exact ig_cells T0) | (with_reducible exact ig_cells T0.drew) | (with_reducible exact ig_cells4 T0) | (with_reducible exact ig_cells4 T0.drew))
    (first
      | (go_at_call 89; have _t := tok1; refine (longOf_any a3 a2 a1 a0 h3 _).mono ?_; rintro e w1 ⟨rfl, hB⟩; (first | (have T1 : ArgsB w w1 [[.int .u64 a3, .int .u64 a2, .int .u64 a1, .int .u64 a0], [.int .u64 b3, .int .u64 b2, .int .u64 b1, .int .u64 b0], [.int .u64 0, .int .u64 0, .int .u64 0, .int .u64 0]] := (by with_reducible exact T0.step hB)) | (have T1 : ArgsB w w1 [[.int .u64 a3, .int .u64 a2, .int .u64 a1, .int .u64 a0], [.int .u64 b3, .int .u64 b2, .int .u64 b1, .int .u64 b0], [.int .u64 0, .int .u64 0, .int .u64 0, .int .u64 0]] := (by with_reducible exact T0.drew.step hB))); clear T0; have T0 := T1; clear T1 hB; clear tok1 _t)
      | (go_at_call 89; refine (longOf_any b3 b2 b1 b0 k3 _).mono ?_; rintro e w2 ⟨rfl, hB⟩; (first | (have T1 : ArgsB w w2 [[.int .u64 a3, .int .u64 a2, .int .u64 a1, .int .u64 a0], [.int .u64 b3, .int .u64 b2, .int .u64 b1, .int .u64 b0], [.int .u64 0, .int .u64 0, .int .u64 0, .int .u64 0]] := (by with_reducible exact T0.step hB)) | (have T1 : ArgsB w w2 [[.int .u64 a3, .int .u64 a2, .int .u64 a1, .int .u64 a0], [.int .u64 b3, .int .u64 b2, .int .u64 b1, .int .u64 b0], [.int .u64 0, .int .u64 0, .int .u64 0, .int .u64 0]] := (by with_reducible exact T0.drew.step hB))); clear T0; have T0 := T1; clear T1 hB)
      | (go_at_call 115; have _t := tok2; refine (sizeL_any a0 a1 a2 a3 (fillW a3) (fillW a3) (fillW a3) (fillW a3) wa _).mono ?_; rintro e w3 ⟨us, rfl, ul, uw', uv, hB⟩; obtain ⟨u0, u1, u2, u3, u4, u5, u6, u7, rfl⟩ := list8' ul; rw [sa] at uv; (first | (have T1 : ArgsB w w3 [[.int .u64 a3, .int .u64 a2, .int .u64 a1, .int .u64 a0], [.int .u64 b3, .int .u64 b2, .int .u64 b1, .int .u64 b0], [.int .u64 0, .int .u64 0, .int .u64 0, .int .u64 0]] := (by with_reducible exact T0.step hB)) | (have T1 : ArgsB w w3 [[.int .u64 a3, .int .u64 a2, .int .u64 a1, .int .u64 a0], [.int .u64 b3, .int .u64 b2, .int .u64 b1, .int .u64 b0], [.int .u64 0, .int .u64 0, .int .u64 0, .int .u64 0]] := (by with_reducible exact T0.drew.step hB))); clear T0; have T0 := T1; clear T1 hB; clear tok2 _t)
      | (go_at_call 115; refine (sizeL_any b0 b1 b2 b3 (fillW b3) (fillW b3) (fillW b3) (fillW b3) wb _).mono ?_; rintro e w4 ⟨vs, rfl, vl, vw, vv, hB⟩; obtain ⟨v0, v1, v2, v3, v4, v5, v6, v7, rfl⟩ := list8' vl; rw [sb] at vv; (first | (have T1 : ArgsB w w4 [[.int .u64 a3, .int .u64 a2, .int .u64 a1, .int .u64 a0], [.int .u64 b3, .int .u64 b2, .int .u64 b1, .int .u64 b0], [.int .u64 0, .int .u64 0, .int .u64 0, .int .u64 0]] := (by with_reducible exact T0.step hB)) | (have T1 : ArgsB w w4 [[.int .u64 a3, .int .u64 a2, .int .u64 a1, .int .u64 a0], [.int .u64 b3, .int .u64 b2, .int .u64 b1, .int .u64 b0], [.int .u64 0, .int .u64 0, .int .u64 0, .int .u64 0]] := (by with_reducible exact T0.drew.step hB))); clear T0; have T0 := T1; clear T1 hB)
      | (go_at_call 114; refine (gcdL_any [u0, u1, u2, u3, u4, u5, u6, u7] [v0, v1, v2, v3, v4, v5, v6, v7] rfl rfl uw' vw _).mono ?_; rintro e w5 ⟨gs, rfl, gl, gw, gv, hB⟩; obtain ⟨g0, g1, g2, g3, g4, g5, g6, g7, rfl⟩ := list8' gl; rw [uv, vv] at gv; (first | (have T1 : ArgsB w w5 [[.int .u64 a3, .int .u64 a2, .int .u64 a1, .int .u64 a0], [.int .u64 b3, .int .u64 b2, .int .u64 b1, .int .u64 b0], [.int .u64 0, .int .u64 0, .int .u64 0, .int .u64 0]] := (by with_reducible exact T0.step hB)) | (have T1 : ArgsB w w5 [[.int .u64 a3, .int .u64 a2, .int .u64 a1, .int .u64 a0], [.int .u64 b3, .int .u64 b2, .int .u64 b1, .int .u64 b0], [.int .u64 0, .int .u64 0, .int .u64 0, .int .u64 0]] := (by with_reducible exact T0.drew.step hB))); clear T0; have T0 := T1; clear T1 hB)
      | (go_at_call 52; refine (tellWide_any g0 g1 g2 g3 g4 g5 g6 g7 gw _).mono ?_; intro e w6 hT; (first | (have hTT := tellP_from T0.below hT; have hB := hT.1; (first | (have T1 : ArgsB w w6 [[.int .u64 a3, .int .u64 a2, .int .u64 a1, .int .u64 a0], [.int .u64 b3, .int .u64 b2, .int .u64 b1, .int .u64 b0], [.int .u64 0, .int .u64 0, .int .u64 0, .int .u64 0]] := (by with_reducible exact T0.step hB)) | (have T1 : ArgsB w w6 [[.int .u64 a3, .int .u64 a2, .int .u64 a1, .int .u64 a0], [.int .u64 b3, .int .u64 b2, .int .u64 b1, .int .u64 b0], [.int .u64 0, .int .u64 0, .int .u64 0, .int .u64 0]] := (by with_reducible exact T0.drew.step hB))); clear T0; have T0 := T1; clear T1 hB) | (have hTT := tellP_from T0.drew.below hT; have hB := hT.1; (first | (have T1 : ArgsB w w6 [[.int .u64 a3, .int .u64 a2, .int .u64 a1, .int .u64 a0], [.int .u64 b3, .int .u64 b2, .int .u64 b1, .int .u64 b0], [.int .u64 0, .int .u64 0, .int .u64 0, .int .u64 0]] := (by with_reducible exact T0.step hB)) | (have T1 : ArgsB w w6 [[.int .u64 a3, .int .u64 a2, .int .u64 a1, .int .u64 a0], [.int .u64 b3, .int .u64 b2, .int .u64 b1, .int .u64 b0], [.int .u64 0, .int .u64 0, .int .u64 0, .int .u64 0]] := (by with_reducible exact T0.drew.step hB))); clear T0; have T0 := T1; clear T1 hB)); obtain ⟨x3, x2, x1, x0, p, rfl⟩ := tellP_shape hT; have c0 := (T0.b 2 rfl).c 0 rfl; have f0 := (T0.b 2 rfl).f 0 rfl; have c1 := (T0.b 2 rfl).c 1 rfl; have f1 := (T0.b 2 rfl).f 1 rfl; have c2 := (T0.b 2 rfl).c 2 rfl; have f2 := (T0.b 2 rfl).f 2 rfl; have c3 := (T0.b 2 rfl).c 3 rfl; have f3 := (T0.b 2 rfl).f 3 rfl; have lt := (T0.b 2 rfl).lt; clear hT))
  all_goals rw [gcd_small gw gv za zb] at hTT
  all_goals clear T0
  all_goals go_wp2
  all_goals refine bodyPost_ret (v := .tuple #[.agg #[.int .u64 x3, .int .u64 x2, .int .u64 x1, .int .u64 x0], .bool p]) (by simp [results, Try.results94, go_sem, c0, c1, c2, c3]) rfl ?_
  all_goals first | exact tellP_set (by omega) hTT | exact tellP_drew (tellP_set (by omega) hTT)
end Go.Proofs.Ytnnojeggjnddpaa

/- The quotient bit by bit: the reckoning. -/
namespace Go.Proofs.Ytnnojeggjnddpaa
open Go.RowKit
theorem p2_pow (i : Nat) : pw (i / 32) * 2 ^ (i % 32) = (2 : Int) ^ i := by
  have h : ∀ m : Nat, pw m = (2 : Int) ^ (32 * m) := by
    intro m
    induction m with
    | zero => simp [pw]
    | succ m ih => rw [pw, ih, show 32 * (m + 1) = 32 * m + 32 by omega, Int.pow_add]; grind
  rw [h, ← Int.pow_add]
  congr 1
  omega
/-- All bits of the digits below k are 0. -/
def QZ (qs : List Int) (k : Nat) : Prop := (∀ j, j < k / 32 → (h : j < qs.length) → qs[j] = 0) ∧ ∀ h : k / 32 < qs.length, qs[k / 32] % 2 ^ (k % 32) = 0
theorem ipow_pos (r : Nat) : (0 : Int) < 2 ^ r := by rw [ipow2]; exact Int.natCast_pos.2 (Nat.two_pow_pos r)
theorem mod_half {w : Int} {r : Nat} (h : w % 2 ^ (r + 1) = 0) : w % 2 ^ r = 0 := by
  have e : (2 : Int) ^ (r + 1) = 2 ^ r * 2 := by rw [Int.pow_succ]
  rw [e] at h
  exact Int.emod_eq_zero_of_dvd (Int.dvd_trans (Int.dvd_mul_right _ _) (Int.dvd_of_emod_eq_zero h))
theorem qz_digit {qs : List Int} {i : Nat} (h : QZ qs (i + 1)) (hi : i / 32 < qs.length) : qs[i / 32] % 2 ^ (i % 32 + 1) = 0 := by
  by_cases hr : i % 32 = 31
  · have := h.1 (i / 32) (by omega) hi
    rw [this]; simp
  · have h2 := h.2 (by rw [show (i + 1) / 32 = i / 32 by omega]; exact hi)
    have e1 : (i + 1) / 32 = i / 32 := by omega
    have e2 : (i + 1) % 32 = i % 32 + 1 := by omega
    simpa [e1, e2] using h2
theorem qz_down {qs : List Int} {i : Nat} (h : QZ qs (i + 1)) (hi : i / 32 < qs.length) : QZ qs i :=
  ⟨fun j hj hl => h.1 j (by omega) hl, fun _ => mod_half (qz_digit h hi)⟩
theorem qz_set {qs : List Int} {i : Nat} (h : QZ qs (i + 1)) (hi : i / 32 < qs.length) : QZ (qs.set (i / 32) (qs[i / 32] + 2 ^ (i % 32))) i := by
  refine ⟨fun j hj hl => ?_, fun hl => ?_⟩
  · rw [List.getElem_set_ne (by omega)]
    exact h.1 j (by omega) (by simpa using hl)
  · rw [List.getElem_set_self]
    have := mod_half (qz_digit h hi)
    rw [Int.add_emod, this]
    simp
theorem or_u32 (a b : Nat) (ha : a < 4294967296) (hb : b < 4294967296) : bits .or .u32 (a : Int) (b : Int) = ((a ||| b : Nat) : Int) := by
  have hx : a ||| b < 2 ^ 32 := Nat.or_lt_two_pow (by omega) (by omega)
  have h1 : (BitVec.ofInt 32 (a : Int)).toNat = a := by
    rw [BitVec.ofInt_natCast, BitVec.toNat_ofNat]; exact Nat.mod_eq_of_lt (by omega)
  have h2 : (BitVec.ofInt 32 (b : Int)).toNat = b := by
    rw [BitVec.ofInt_natCast, BitVec.toNat_ofNat]; exact Nat.mod_eq_of_lt (by omega)
  show IntKind.u32.wrap ((BitVec.ofInt 32 (a : Int) ||| BitVec.ofInt 32 (b : Int)).toNat : Int) = _
  rw [BitVec.toNat_or, h1, h2, IntKind.wrap_u32]
  omega
theorem or_bit {w : Int} {r : Nat} (hr : r < 32) (h0 : 0 ≤ w) (h1 : w < 4294967296) (hm : w % 2 ^ (r + 1) = 0) : bits .or .u32 w (2 ^ r) = w + 2 ^ r ∧ w + 2 ^ r < 4294967296 := by
  obtain ⟨a, rfl⟩ := Int.eq_ofNat_of_zero_le h0
  have e : ((2 : Int) ^ r) = ((2 ^ r : Nat) : Int) := by simp
  have e' : ((2 : Int) ^ (r + 1)) = ((2 ^ (r + 1) : Nat) : Int) := by simp
  rw [e'] at hm
  have hd : 2 ^ (r + 1) ∣ a := by
    have : ((2 ^ (r + 1) : Nat) : Int) ∣ (a : Int) := Int.dvd_of_emod_eq_zero hm
    exact Int.natCast_dvd_natCast.1 this
  obtain ⟨v, rfl⟩ := hd
  have hp : (2 : Nat) ^ r < 2 ^ (r + 1) := by rw [Nat.pow_succ]; have := Nat.two_pow_pos r; omega
  have ho := Nat.two_pow_add_eq_or_of_lt hp v
  have hlt : 2 ^ (r + 1) * v + 2 ^ r < 4294967296 := by
    have h32 : (2 : Nat) ^ 32 = 2 ^ (r + 1) * 2 ^ (31 - r) := by rw [← Nat.pow_add]; congr 1; omega
    have hv : v < 2 ^ (31 - r) := by
      apply Decidable.byContradiction
      intro hn
      have : 2 ^ (r + 1) * 2 ^ (31 - r) ≤ 2 ^ (r + 1) * v := Nat.mul_le_mul_left _ (by omega)
      omega
    have : 2 ^ (r + 1) * (v + 1) ≤ 2 ^ (r + 1) * 2 ^ (31 - r) := Nat.mul_le_mul_left _ hv
    rw [Nat.mul_add, Nat.mul_one] at this
    omega
  rw [e]
  refine ⟨?_, by omega⟩
  rw [or_u32 _ _ (by omega) (by omega), ← ho]
  omega
/-- Between the rounds: x is q times y and the rest, which is less than 2^k times y. -/
structure DvI (X Y : Int) (qs : List Int) (R : Int) (k N : Nat) : Prop where
  len : qs.length = N
  dig : Dig qs
  eq : X = val qs * Y + R
  r0 : 0 ≤ R
  lt : R < 2 ^ k * Y
  qz : QZ qs k
theorem dv_skip {X Y : Int} {qs : List Int} {R : Int} {i N : Nat} (h : DvI X Y qs R (i + 1) N) (hi : i / 32 < N) (hR : R < 2 ^ i * Y) : DvI X Y qs R i N :=
  ⟨h.len, h.dig, h.eq, h.r0, hR, qz_down h.qz (by rw [h.len]; exact hi)⟩
theorem dv_take {X Y : Int} {qs : List Int} {R : Int} {i N : Nat} (h : DvI X Y qs R (i + 1) N) (hi : i / 32 < qs.length) (hR : 2 ^ i * Y ≤ R) : DvI X Y (qs.set (i / 32) (qs[i / 32] + 2 ^ (i % 32))) (R - 2 ^ i * Y) i N ∧ bits .or .u32 qs[i / 32] (2 ^ (i % 32)) = qs[i / 32] + 2 ^ (i % 32) := by
  obtain ⟨w0, w1⟩ := dig_at h.dig (i / 32) hi
  obtain ⟨o1, o2⟩ := or_bit (r := i % 32) (by omega) w0 w1 (qz_digit h.qz hi)
  have hp := ipow_pos (i % 32)
  refine ⟨⟨by simpa using h.len, dig_set h.dig _ (by omega) o2, ?_, by omega, ?_, qz_set h.qz hi⟩, o1⟩
  · rw [val_set qs _ hi, show qs[i / 32] + 2 ^ (i % 32) - qs[i / 32] = (2 : Int) ^ (i % 32) by omega, p2_pow, Int.add_mul]
    have := h.eq
    omega
  · have := h.lt
    rw [Int.pow_succ] at this
    have e : (2 : Int) ^ i * 2 * Y = 2 ^ i * Y + 2 ^ i * Y := by grind
    omega
theorem dv_end {X Y : Int} {qs : List Int} {R : Int} {N : Nat} (h : DvI X Y qs R 0 N) (hY : 0 < Y) : val qs = X / Y ∧ R = X % Y := by
  have h1 := h.lt
  simp at h1
  have h2 := h.r0
  have h3 := h.eq
  have e1 : X / Y = val qs := by
    rw [h3, Int.add_comm, Int.add_mul_ediv_right _ _ (by omega), Int.ediv_eq_zero_of_lt h2 h1]
    omega
  refine ⟨e1.symm, ?_⟩
  have := Int.emod_add_mul_ediv X Y
  rw [e1] at this
  have e : Y * val qs = val qs * Y := Int.mul_comm _ _
  omega
theorem dv_start {X Y : Int} {bx bz : Nat} (hx : BitsOf X bx) (hy : BitsOf Y bz) (hY : 0 < Y) (h : bz ≤ bx) (N : Nat) : DvI X Y (List.replicate N 0) X (bx - bz + 1) N := by
  refine ⟨by simp, fun d hd => by rw [List.eq_of_mem_replicate hd]; decide, by simp [val_zeros], hx.1, ?_, ⟨fun j _ hl => by simp, fun hl => by simp⟩⟩
  have hb : bz ≠ 0 := by
    rintro rfl
    have := hy.2.1
    simp at this
    omega
  have h2 : (2 : Int) ^ (bz - 1) ≤ Y := by
    rcases hy.2.2 with h2 | h2
    · exact absurd h2 hb
    · exact h2
  have e : (2 : Int) ^ bx = 2 ^ (bx - bz + 1) * 2 ^ (bz - 1) := by rw [← Int.pow_add]; congr 1; omega
  have h3 := hx.2.1
  have h4 : (2 : Int) ^ (bx - bz + 1) * 2 ^ (bz - 1) ≤ 2 ^ (bx - bz + 1) * Y := Int.mul_le_mul_of_nonneg_left h2 (by have := ipow_pos (bx - bz + 1); omega)
  omega
theorem dv_less {X Y : Int} {bx bz : Nat} (hx : BitsOf X bx) (hy : BitsOf Y bz) (h : bx < bz) : X / Y = 0 ∧ X % Y = X ∧ X < Y := by
  have h2 : (2 : Int) ^ (bz - 1) ≤ Y := by
    rcases hy.2.2 with h2 | h2
    · omega
    · exact h2
  have h3 := ipow2_mono (show bx ≤ bz - 1 by omega)
  have h4 := hx.2.1
  have h5 : X < Y := by omega
  exact ⟨Int.ediv_eq_zero_of_lt hx.1 h5, Int.emod_eq_of_lt hx.1 h5, h5⟩
end Go.Proofs.Ytnnojeggjnddpaa

/- The difference of digits and the trimming once more, with where their answers lie. -/
namespace Go.Proofs.Ytnnojeggjnddpaa
open Go.RowKit
def SubAt (n : Nat) (z : Int) (w : World) (e : Ending) (w' : World) : Prop := DigsP n z w e w' ∧ ∃ cap, e = .returned (.slice (some ⟨w.heap.size, 0, none⟩) n cap)
def TrimAt (neg : Bool) (ao : Option Addr) (n : Nat) (ds : List Int) (w : World) (e : Ending) (w' : World) : Prop :=
  TrimP neg n ds w e w' ∧ ∃ s' ao' n' cap', e = .returned (.agg #[.bool s', .slice ao' n' cap']) ∧ (ao' = ao ∨ ao' = none)
set_option maxRecDepth 100000 in
set_option maxHeartbeats 400000 in
theorem subAbs_at (ao bo : Option Addr) (n m ca cb : Nat) (xs ys : List Int) (w : World) (hx : xs.length = n) (hy : ys.length = m) (dx : Dig xs) (dy : Dig ys) (rx : Rd w ao xs) (ry : Rd w bo ys) (hm : n ≤ 1000000) (_hm' : m ≤ 1000000)
    (hle : val ys ≤ val xs) :
    Calls Try.prog 77 #[.slice ao n ca, .slice bo m cb] w (SubAt n (val xs - val ys) w) := by
  obtain ⟨i0, hi, hz0, hz1, hz2⟩ := info_parts Try.info88
  have HX : Hid (xs.length = n) := hx
  have HY : Hid (ys.length = m) := hy
  have HDX : Hid (Dig xs) := dx
  have HDY : Hid (Dig ys) := dy
  have HRX : Hid (Rd w ao xs) := rx
  have HRY : Hid (Rd w bo ys) := ry
  have HLE : Hid (val ys ≤ val xs) := hle
  clear rx ry dx dy hx hy hle
  go_enter Try.func77, Try.ntmps77
  go_wp2_with (at_make; refine wpList_make_own _ rfl _ _ 64 rfl w.heap.size 112 i0 (.int .u32 0) 1 Try.underlying64 hi hz0 hz1 _ _ _ n rfl rfl rfl (by rw [hz2]; omega) (by unfold maxLen; omega) (Nat.le_refl _) ?_)
  intro w1 hown hgrow
  go_wp2
  go_loopw [5, 6, 7] (fun o c i wr => ∃ (k : Nat) (cv : Int) (zs : List Int), k ≤ n ∧ i = .int .i64 k ∧ 0 ≤ cv ∧ cv ≤ 1 ∧ c = .int .u64 cv ∧ o = .slice (some ⟨w.heap.size, 0, none⟩) k n ∧ SubI w wr n xs ys k cv zs) (fun _ _ i _ => n - (intOf i).toNat)
  case atStart => exact ⟨0, 0, [], Nat.zero_le _, rfl, by decide, by decide, rfl, rfl, ⟨rfl, dig_nil, by simp [val], hown, (Below.refl _ _).grown hgrow (Nat.le_refl _) (by simp)⟩⟩
  case round =>
    obtain ⟨k, cv, zs, hk, rfl, hc0, hc1, rfl, rfl, hI⟩ := hrel
    by_cases hkn : k < n
    · have hkx : k < xs.length := by have := HX.out; omega
      obtain ⟨b, off, rfl, hbl, hcx0⟩ := HRX.out k hkx
      have hcx := (hI.below.cell (p := ⟨b, off + k, none⟩) hbl).trans hcx0
      clear hcx0
      have hxd := dig_at HDX.out k hkx
      obtain ⟨hx0, hx1⟩ := hxd
      by_cases hkm : k < m
      · have hky : k < ys.length := by have := HY.out; omega
        obtain ⟨b', off', rfl, hbl', hcy0⟩ := HRY.out k hky
        have hcy := (hI.below.cell (p := ⟨b', off' + k, none⟩) hbl').trans hcy0
        clear hcy0
        obtain ⟨hy0, hy1⟩ := dig_at HDY.out k hky
        by_cases hlt : xs[k] < cv + ys[k]
        · go_wp2_with (at_builtin; refine wpList_append_fits _ rfl _ _ 64 rfl w.heap.size 112 i0 1 Try.underlying64 hi hz1 w.heap.size k n _ rfl (hI.own.alloc _) ⟨wr.heap.size, 0, none⟩ 1 1 [.int .u32 (xs[k] + 4294967296 - (cv + ys[k]))] rfl rfl (cell_one_new _ _ _) (one_cell _ _) (by omega) ?_)
          intro w2 hown2 hgrow2
          go_wp2
          go_roundw
          case rel => exact ⟨k + 1, 1, zs ++ [xs[k] + 4294967296 - (cv + ys[k])], by omega, by go_num, by decide, by decide, rfl, rfl, sub_step hI hc0 hc1 _ 1 (by decide) (by omega) (by omega) (by simp [List.getD, hkx, hky] <;> omega) hown2 hgrow2⟩
          case measure => simp [intOf]; omega
        · go_wp2_with (at_builtin; refine wpList_append_fits _ rfl _ _ 64 rfl w.heap.size 112 i0 1 Try.underlying64 hi hz1 w.heap.size k n _ rfl (hI.own.alloc _) ⟨wr.heap.size, 0, none⟩ 1 1 [.int .u32 (xs[k] - (cv + ys[k]))] rfl rfl (cell_one_new _ _ _) (one_cell _ _) (by omega) ?_)
          intro w2 hown2 hgrow2
          go_wp2
          go_roundw
          case rel => exact ⟨k + 1, 0, zs ++ [xs[k] - (cv + ys[k])], by omega, by go_num, by decide, by decide, rfl, rfl, sub_step hI hc0 hc1 _ 0 (by decide) (by omega) (by omega) (by simp [List.getD, hkx, hky] <;> omega) hown2 hgrow2⟩
          case measure => simp [intOf]; omega
      · by_cases hlt : xs[k] < cv
        · go_wp2_with (at_builtin; refine wpList_append_fits _ rfl _ _ 64 rfl w.heap.size 112 i0 1 Try.underlying64 hi hz1 w.heap.size k n _ rfl (hI.own.alloc _) ⟨wr.heap.size, 0, none⟩ 1 1 [.int .u32 (xs[k] + 4294967296 - cv)] rfl rfl (cell_one_new _ _ _) (one_cell _ _) (by omega) ?_)
          intro w2 hown2 hgrow2
          go_wp2
          go_roundw
          case rel => exact ⟨k + 1, 1, zs ++ [xs[k] + 4294967296 - cv], by omega, by go_num, by decide, by decide, rfl, rfl, sub_step hI hc0 hc1 _ 1 (by decide) (by omega) (by omega) (by have := HY.out; simp [List.getD, hkx, show ¬ k < ys.length by omega] <;> omega) hown2 hgrow2⟩
          case measure => simp [intOf]; omega
        · go_wp2_with (at_builtin; refine wpList_append_fits _ rfl _ _ 64 rfl w.heap.size 112 i0 1 Try.underlying64 hi hz1 w.heap.size k n _ rfl (hI.own.alloc _) ⟨wr.heap.size, 0, none⟩ 1 1 [.int .u32 (xs[k] - cv)] rfl rfl (cell_one_new _ _ _) (one_cell _ _) (by omega) ?_)
          intro w2 hown2 hgrow2
          go_wp2
          go_roundw
          case rel => exact ⟨k + 1, 0, zs ++ [xs[k] - cv], by omega, by go_num, by decide, by decide, rfl, rfl, sub_step hI hc0 hc1 _ 0 (by decide) (by omega) (by omega) (by have := HY.out; simp [List.getD, hkx, show ¬ k < ys.length by omega] <;> omega) hown2 hgrow2⟩
          case measure => simp [intOf]; omega
    · go_wp2
      go_ret
      obtain rfl : k = n := by omega
      exact ⟨sub_done hI hc0 hc1 HX.out HDX.out HDY.out HLE.out, _, rfl⟩
set_option maxHeartbeats 400000 in
theorem trim_at (neg : Bool) (ao : Option Addr) (n cap : Nat) (ds : List Int) (w : World) (hn : ds.length = n) (hc : n ≤ cap) (hd : Dig ds) (hr : Rd w ao ds) (hm : n ≤ 1000000000) :
    Calls Try.prog 76 #[.bool neg, .slice ao n cap] w (TrimAt neg ao n ds w) := by
  go_enter Try.func76, Try.ntmps76
  go_wp2
  go_loop [5] (fun i => ∃ k : Nat, k ≤ n ∧ i = .int .i64 k ∧ ∀ j, k ≤ j → (h : j < ds.length) → ds[j] = 0) (fun i => (intOf i).toNat)
  case atStart => exact ⟨n, Nat.le_refl _, rfl, fun j h1 h2 => by omega⟩
  case round =>
    obtain ⟨k, hk, rfl, hz⟩ := hrel
    have HN : Hid (ds.length = n) := hn
    have HD : Hid (Dig ds) := hd
    have HZ : Hid (∀ j, k ≤ j → (h : j < ds.length) → ds[j] = 0) := hz
    have HR : Hid (Rd w ao ds) := hr
    clear hz hr hd hn
    by_cases hk0 : 0 < k
    · obtain ⟨m, rfl⟩ : ∃ m, k = m + 1 := ⟨k - 1, by omega⟩
      have hml : m < ds.length := by have := HN.out; omega
      obtain ⟨b, off, rfl, hbl, hcell0⟩ := HR.out m hml
      have hcell := cell_alloc (o := Obj.cells #[Value.bool false, Value.slice none 0 0] 66) hbl hcell0
      clear hcell0
      go_wp2
      · go_round
        case rel =>
          have h0 : (ds[m] == 0) = true := by assumption
          exact ⟨m, by omega, by go_num, fun j h1 h2 => by
            by_cases e : j = m
            · subst e; simpa using h0
            · exact HZ.out j (by omega) h2⟩
        case measure => simp [intOf]
      · refine bodyPost_ret (v := .agg #[.bool neg, .slice (some ⟨b, off, none⟩) (m + 1) cap]) (by simp [results, Try.results76, go_sem]) rfl ?_
        have h0 : (ds[m] == 0) = false := by assumption
        exact ⟨trim_some neg n cap ds w _ HN.out hc HD.out HR.out m hml (by simpa using h0) HZ.out ((Below.refl _ _).alloc (Nat.le_refl _) _), _, _, _, _, rfl, Or.inl rfl⟩
    · go_wp2
      refine bodyPost_ret (v := .agg #[.bool false, .slice none 0 0]) (by simp [results, Try.results76, go_sem]) rfl ?_
      exact ⟨trim_none neg n ds w _ (fun j h => HZ.out j (by omega) h) ((Below.refl _ _).alloc (Nat.le_refl _) _), _, _, _, _, rfl, Or.inr rfl⟩
end Go.Proofs.Ytnnojeggjnddpaa

/- The walk of the model's quotient and rest of digits, bit by bit. -/
namespace Go.Proofs.Ytnnojeggjnddpaa
open Go.RowKit
def DivP (n : Nat) (X Y : Int) (w : World) (e : Ending) (w' : World) : Prop :=
  ∃ (qo : Option Addr) (qn qc : Nat) (qs : List Int) (ro : Option Addr) (rn rc : Nat) (rs : List Int), e = .returned (.tuple #[.slice qo qn qc, .slice ro rn rc]) ∧
    (qs.length = qn ∧ qn ≤ qc ∧ qn ≤ n + 1 ∧ Nrm qs ∧ val qs = X / Y ∧ Rd w' qo qs) ∧ (rs.length = rn ∧ rn ≤ rc ∧ rn ≤ n ∧ Nrm rs ∧ val rs = X % Y ∧ Rd w' ro rs) ∧ Below w.heap.size w w'
theorem bits_le32 {v : Int} {b n : Nat} (h : BitsOf v b) (hv : v < pw n) : b ≤ 32 * n := by
  apply Decidable.byContradiction
  intro hn
  have hp := p2_pow (32 * n)
  rw [show 32 * n / 32 = n by omega, show 32 * n % 32 = 0 by omega] at hp
  simp only [Int.pow_zero, Int.mul_one] at hp
  rw [hp] at hv
  rcases h.2.2 with h2 | h2
  · omega
  · have := ipow2_mono (show 32 * n ≤ b - 1 by omega)
    omega
/-- What lies in memory between the rounds. -/
structure DvM (W wr : World) (g : Nat) (qs : List Int) (ro : Option Addr) (rn rc : Nat) (rs : List Int) (n : Nat) : Prop where
  below : Below W.heap.size W wr
  q : Blk wr g (qs.map (Value.int .u32))
  rlen : rs.length = rn
  rcap : rn ≤ rc
  rle : rn ≤ n
  rnrm : Nrm rs
  rrd : Rd wr ro rs
  rne : ∀ b off, ro = some ⟨b, off, none⟩ → rs ≠ [] → b ≠ g
theorem DvM.step {W wr wr' : World} {g : Nat} {qs : List Int} {ro : Option Addr} {rn rc : Nat} {rs : List Int} {n : Nat} (h : DvM W wr g qs ro rn rc rs n) (hB : Below wr.heap.size wr wr') : DvM W wr' g qs ro rn rc rs n :=
  ⟨h.below.trans (hB.mono h.below.size), h.q.step hB, h.rlen, h.rcap, h.rle, h.rnrm, h.rrd.below hB (Nat.le_refl _), h.rne⟩
theorem Rd.setNe {w : World} {ao : Option Addr} {ds : List Int} (h : Rd w ao ds) {p : Addr} (hp : ∀ b off, ao = some ⟨b, off, none⟩ → ds ≠ [] → b ≠ p.block) (u : Value) : Rd (w.setCell p u) ao ds := by
  intro i hi
  obtain ⟨b, off, e, hb, hc⟩ := h i hi
  refine ⟨b, off, e, by simpa [World.setCell] using hb, (World.cell?_setCell_other _ _ _ _ ?_).trans hc⟩
  intro e2
  rw [e2] at hp
  exact hp b off e (by rintro rfl; simp at hi) rfl
set_option maxRecDepth 100000 in
set_option maxHeartbeats 4000000 in
theorem divAbs_any (ao bo : Option Addr) (n m ca cb : Nat) (xs ys : List Int) (w : World) (hx : xs.length = n) (hy : ys.length = m) (nx : Nrm xs) (ny : Nrm ys) (rx : Rd w ao xs) (ry : Rd w bo ys) (hc : n ≤ ca) (hn : n ≤ 10000) (hm : m ≤ 10000) (hY : 0 < val ys) :
    Calls Try.prog 113 #[.slice ao n ca, .slice bo m cb] w (DivP n (val xs) (val ys) w) := by
  obtain ⟨i0, hi, hz0, hz1, hz2⟩ := info_parts Try.info88
  go_enter Try.func113, Try.ntmps113
  go_wp2_with fail
  refine (bits_any ao n ca xs _ hx nx rx (by omega)).mono ?_
  rintro e w1 ⟨bx, rfl, hbx, hB⟩
  replace rx := rx.below hB (Nat.le_refl _)
  replace ry := ry.below hB (Nat.le_refl _)
  have HB1 := hB
  clear hB
  go_wp2_with fail
  refine (bits_any bo m cb ys _ hy ny ry (by omega)).mono ?_
  rintro e w2 ⟨bz, rfl, hbz, hB⟩
  replace rx := rx.below hB (Nat.le_refl _)
  replace ry := ry.below hB (Nat.le_refl _)
  have HB2 : Below w.heap.size w w2 := HB1.trans (hB.mono HB1.size)
  clear hB HB1
  have l1 := bits_le32 (n := n) hbx (by rw [← hx]; exact val_lt nx.1)
  have l2 := bits_le32 (n := m) hbz (by rw [← hy]; exact val_lt ny.1)
  by_cases hlt : bx < bz
  · obtain ⟨v1, v2, v3⟩ := dv_less hbx hbz hlt
    have i1 : (bx : Int) - bz < 0 := by omega
    clear hi hz0 hz1 hz2 hbx hbz
    go_wp2
    go_ret2
    exact ⟨none, 0, 0, [], ao, n, ca, xs, rfl, ⟨rfl, by omega, by omega, nrm_nil, by rw [v1]; rfl, Rd.nil _ _⟩, ⟨hx, hc, Nat.le_refl _, nx, v2.symm, rx⟩, HB2⟩
  · have HI := dv_start hbx hbz hY (by omega) ((bx - bz) / 32 + 1)
    obtain ⟨N, hN⟩ : ∃ N, bx - bz = N := ⟨_, rfl⟩
    have eN : (bx : Int) - bz = (N : Int) := by omega
    have hN1 : N ≤ 32 * n := by omega
    rw [hN] at HI
    clear hbx hbz hN hlt l1 l2
    obtain ⟨K, hK⟩ : ∃ K, N / 32 = K := ⟨_, rfl⟩
    have eK : (N : Int) / 32 = (K : Int) := by omega
    rw [hK] at HI
    go_wp2_with (at_make; refine wpList_make_full _ rfl _ _ 64 rfl w2.heap.size 112 i0 (.int .u32 0) 1 Try.underlying64 hi hz0 hz1 _ _ _ _ (K + 1) rfl rfl (by omega) (by omega) (by rw [hz2]; omega) (by unfold maxLen; omega) (Nat.le_refl _) ?_)
    intro w3 hown hgrow
    have M0 : DvM w2 w3 w2.heap.size (List.replicate (K + 1) 0) ao n ca xs n := by
      rw [made_one] at hown
      refine ⟨(Below.refl _ _).grown hgrow (Nat.le_refl _) (by simp), ⟨(hown.lt _ rfl).2, fun j v hj => ?_⟩, hx, hc, Nat.le_refl _, nx, rx.below ((Below.refl _ _).grown hgrow (Nat.le_refl _) (by simp)) (Nat.le_refl _), ?_⟩
      · have hjl : j < K + 1 := by
          apply Decidable.byContradiction
          intro hn
          rw [List.getElem?_eq_none (by simp; omega)] at hj
          cases hj
        refine ⟨?_, hown.frozenAt j⟩
        rw [hown.cellAt j (by omega)]
        simpa using hj
      · rintro b off rfl hne
        obtain ⟨b', off', e, hb, _⟩ := rx 0 (List.length_pos_iff.2 hne)
        cases e
        omega
    have HBW : Below w.heap.size w w3 := HB2.trans (M0.below.mono HB2.size)
    clear hown hgrow hi hz0 hz1 hz2
    have hKn : K ≤ n := by omega
    go_wp2
    go_loopw [8, 9] (fun r i wr => ∃ (k : Nat) (ro : Option Addr) (rn rc : Nat) (rs qs : List Int), k ≤ N + 1 ∧ i = .int .i64 ((k : Int) - 1) ∧ r = .slice ro rn rc ∧ DvI (val xs) (val ys) qs (val rs) k (K + 1) ∧ DvM w2 wr w2.heap.size qs ro rn rc rs n) (fun _ i _ => (intOf i + 1).toNat)
    case atStart => exact ⟨N + 1, ao, n, ca, xs, _, Nat.le_refl _, by go_num, rfl, HI, M0⟩
    case round =>
      clear HI M0
      obtain ⟨k, ro, rn, rc, rs, qs, hk, rfl, rfl, hI, hM⟩ := hrel
      by_cases hk0 : 0 < k
      · obtain ⟨j, rfl⟩ : ∃ j, k = j + 1 := ⟨k - 1, by omega⟩
        rw [show (((j + 1 : Nat) : Int) - 1) = (j : Int) by omega]
        have ryr := ry.below hM.below (Nat.le_refl _)
        go_wp2_with fail
        refine (left_any bo m cb j ys _ hy ny.1 ryr (by omega) (by omega)).mono ?_
        rintro e w4 ⟨so, sn, sc, ss, rfl, k1, k2, k3, k4, k5, k6, hB⟩
        have hM4 := hM.step hB
        have e2 : val ss = 2 ^ j * val ys := by rw [k5, ← Int.mul_assoc, p2_pow]
        clear hM hB k5 ryr
        go_wp2_with fail
        refine (cmpAbs_any ro so rn sn rc sc rs ss _ hM4.rlen k1 hM4.rnrm k4 hM4.rrd k6 (by have := hM4.rle; omega) (by omega)).mono ?_
        rintro e w5 ⟨rfl, hB⟩
        have hM5 := hM4.step hB
        replace k6 := k6.below hB (Nat.le_refl _)
        clear hM4 hB
        by_cases hle : val rs < 2 ^ j * val ys
        · have hcm : decide (0 ≤ cmpI (val rs) (val ss)) = false := by rw [cmpI_lt (by rw [e2]; exact hle)]; decide
          have R1 := dv_skip hI (by omega) hle
          clear hI e2 k1 k2 k3 k4 k6
          generalize cmpI (val rs) (val ss) = cm at *
          go_wp2
          go_roundw
          case rel => exact ⟨j, ro, rn, rc, rs, qs, by omega, by go_num, rfl, R1, hM5⟩
          case measure => simp [intOf]
        · have hcm : 0 ≤ cmpI (val rs) (val ss) := by
            rcases Int.lt_trichotomy (val rs) (val ss) with h | h | h
            · rw [e2] at h; exact absurd h hle
            · rw [cmpI_eq h]; decide
            · rw [cmpI_gt h]; decide
          generalize cmpI (val rs) (val ss) = cm at *
          go_wp2_with fail
          refine (subAbs_at ro so rn sn rc sc rs ss _ hM5.rlen k1 hM5.rnrm.1 k4.1 hM5.rrd k6 (by have := hM5.rle; omega) (by omega) (by rw [e2]; omega)).mono ?_
          rintro e w6 ⟨⟨o6, c6, z6, rfl, d1, d2, d3, d4, d5, hB⟩, c6', he⟩
          simp only [Ending.returned.injEq, Value.slice.injEq, true_and] at he
          obtain ⟨rfl, rfl⟩ := he
          have hM6 := hM5.step hB
          have hg5 := hM5.q.lt
          clear hM5 hB k1 k2 k3 k4 k6 hcm
          go_wp2_with fail
          refine (trim_at false (some ⟨w5.heap.size, 0, none⟩) rn c6 z6 _ d1 d2 d3 d5 (by have := hM6.rle; omega)).mono ?_
          rintro e w7 ⟨⟨s7, o7, n7, c7, z7, rfl, t1, t2, t3, t4, t5, t6, t7, hB⟩, s8, o8, n8, c8, he, ho⟩
          simp only [Ending.returned.injEq, Value.agg.injEq, Array.mk.injEq, List.cons.injEq, Value.bool.injEq, Value.slice.injEq, and_true] at he
          obtain ⟨rfl, rfl, rfl, rfl⟩ := he
          have hM7 := hM6.step hB
          have hjl : j / 32 < qs.length := by rw [hI.len]; omega
          obtain ⟨R1, oq⟩ := dv_take hI hjl (by omega)
          have ev : val z7 = val rs - 2 ^ j * val ys := by rw [t5, d4, e2]
          rw [← ev] at R1
          have cq := hM7.q.c (j / 32) (v := .int .u32 qs[j / 32]) (by simp [hjl])
          have fq := hM7.q.f (j / 32) (v := .int .u32 qs[j / 32]) (by simp [hjl])
          have hNe : ∀ b off, o7 = some ⟨b, off, none⟩ → z7 ≠ [] → b ≠ w2.heap.size := by
            rintro b off e _
            rcases ho with ho | ho
            · rw [ho] at e; cases e; omega
            · rw [ho] at e; cases e
          have R2 : DvM w2 (w7.setCell ⟨w2.heap.size, j / 32, none⟩ (.int .u32 (qs[j / 32] + 2 ^ (j % 32)))) w2.heap.size (qs.set (j / 32) (qs[j / 32] + 2 ^ (j % 32))) o7 n7 c7 z7 n := by
            refine ⟨hM7.below.setCell (Nat.le_refl _) _, ?_, t1, t2, by have := hM7.rle; omega, t4, t7.setNe hNe _, hNe⟩
            have := hM7.q.setI (j / 32) (by simpa using hjl) (.int .u32 (qs[j / 32] + 2 ^ (j % 32)))
            rwa [← List.map_set] at this
          clear hM6 hM7 t1 t2 t3 t4 t5 t6 t7 d1 d2 d3 d4 d5 hB ho hNe ev hI e2
          have e3 : (j : Int) / 32 = ((j / 32 : Nat) : Int) := by omega
          have e4 : (j : Int) % 32 = ((j % 32 : Nat) : Int) := by omega
          have e5 : ((j / 32 : Nat) : Int) < (K : Int) + 1 := by omega
          have fd := field_d (.bool s7) (.slice o7 n7 c7)
          have e6 : (2 : Int) ^ (j % 32) % 4294967296 = 2 ^ (j % 32) := by
            have h31 := ipow2_mono (show j % 32 ≤ 31 by omega)
            have hp := ipow_pos (j % 32)
            have : (2 : Int) ^ 31 = 2147483648 := by decide
            omega
          generalize hjq : j / 32 = jq at *
          generalize hjr : j % 32 = jr at *
          go_wp2
          go_roundw
          case rel =>
            exact ⟨j, o7, n7, c7, z7, _, by omega, rfl, rfl, R1, R2⟩
          case measure => simp [intOf]
      · obtain rfl : k = 0 := by omega
        obtain ⟨v1, v2⟩ := dv_end hI hY
        have hq := hM.q
        have rq : Rd wr (some ⟨w2.heap.size, 0, none⟩) qs := fun i hi => ⟨w2.heap.size, 0, rfl, hq.lt, by rw [Nat.zero_add]; exact hq.c i (by simp [hi])⟩
        have hlq := hI.len
        have hdq := hI.dig
        clear hI hq
        go_wp2_with fail
        refine (trim_at false (some ⟨w2.heap.size, 0, none⟩) (K + 1) (K + 1) qs _ hlq (Nat.le_refl _) hdq rq (by omega)).mono ?_
        rintro e w7 ⟨⟨s7, o7, n7, c7, z7, rfl, t1, t2, t3, t4, t5, t6, t7, hB⟩, _⟩
        have hM7 := hM.step hB
        have HBE : Below w.heap.size w w7 := HB2.trans (hM7.below.mono HB2.size)
        clear hM hB
        have fd := field_d (.bool s7) (.slice o7 n7 c7)
        clear t6
        go_wp2
        go_ret2
        exact ⟨o7, n7, c7, z7, ro, rn, rc, rs, rfl, ⟨t1, t2, by omega, t4, by rw [t5]; exact v1, t7⟩, ⟨hM7.rlen, hM7.rcap, hM7.rle, hM7.rnrm, v2, hM7.rrd⟩, HBE⟩
end Go.Proofs.Ytnnojeggjnddpaa

/- The walk of the model's greatest common divisor. -/
namespace Go.Proofs.Ytnnojeggjnddpaa
open Go.RowKit
/-- The digits that lie behind a slice. -/
def digsOf (w : World) : Value → List Int
  | .slice (some a) n _ => (List.range n).map fun i => match w.cell? ⟨a.block, a.off + i, none⟩ with | some v => intOf v | none => 0
  | _ => []
theorem digs_of {w : World} {ao : Option Addr} {n cap : Nat} {ds : List Int} (h : Rd w ao ds) (hl : ds.length = n) : digsOf w (.slice ao n cap) = ds := by
  by_cases h0 : n = 0
  · subst h0
    have : ds = [] := List.eq_nil_of_length_eq_zero hl
    subst this
    cases ao <;> simp [digsOf]
  · obtain ⟨b, off, rfl, _, _⟩ := h 0 (by omega)
    simp only [digsOf]
    apply List.ext_getElem
    · simp [hl]
    · intro i h1 h2
      obtain ⟨b', off', e, _, hc⟩ := h i h2
      cases e
      simp [hc, intOf]
structure GdI (W wr : World) (xo : Option Addr) (xn xc : Nat) (xs : List Int) (yo : Option Addr) (yn yc : Nat) (ys : List Int) (k G : Nat) : Prop where
  below : Below W.heap.size W wr
  xlen : xs.length = xn
  xcap : xn ≤ xc
  xle : xn ≤ k
  xnrm : Nrm xs
  xrd : Rd wr xo xs
  ylen : ys.length = yn
  ycap : yn ≤ yc
  yle : yn ≤ k
  ynrm : Nrm ys
  yrd : Rd wr yo ys
  gcd : Int.gcd (val xs) (val ys) = G
theorem gcd_step {x y : Int} (hx : 0 ≤ x) (hy : 0 < y) : Int.gcd y (x % y) = Int.gcd x y := by
  obtain ⟨a, rfl⟩ := Int.eq_ofNat_of_zero_le hx
  obtain ⟨b, rfl⟩ := Int.eq_ofNat_of_zero_le (show 0 ≤ y by omega)
  rw [show ((a : Int) % (b : Int)) = ((a % b : Nat) : Int) from (Int.natCast_emod a b).symm, Int.gcd_natCast_natCast, Int.gcd_natCast_natCast, Nat.gcd_comm a b, Nat.gcd_rec b a, Nat.gcd_comm]
set_option maxRecDepth 100000 in
set_option maxHeartbeats 2000000 in
theorem gcd_any (s t : Bool) (ao bo : Option Addr) (n m ca cb k : Nat) (xs ys : List Int) (x y : Int) (w : World) (hx : IsNum w s ao n ca xs x k) (hy : IsNum w t bo m cb ys y k) (hk : k ≤ 9000) :
    Calls Try.prog 92 #[.agg #[.bool s, .slice ao n ca], .agg #[.bool t, .slice bo m cb]] w (NumP k (Int.gcd x y : Int) w) := by
  have T0 := two_start w (.bool s) (.slice ao n ca) (.bool t) (.slice bo m cb)
  have HX := hx.below T0.below
  have HY := hy.below T0.below
  have G0 : Int.gcd (val xs) (val ys) = Int.gcd x y := by rw [hx.val, hy.val]; simp [Int.gcd]
  clear hx hy
  go_enter Try.func92, Try.ntmps92
  go_upto_region 1 with fail
  generalize ((w.alloc (Obj.cells #[Value.bool s, Value.slice ao n ca] 66)).alloc (Obj.cells #[Value.bool t, Value.slice bo m cb] 66)).alloc (Obj.cells #[Value.bool false, Value.slice none 0 0] 66) = W at *
  have q1 := T0.a1; have q3 := T0.b1
  have I0 : GdI W W ao n ca xs bo m cb ys k (Int.gcd x y) := ⟨Below.refl _ _, HX.len, HX.cap, HX.le, HX.nrm, HX.rd, HY.len, HY.cap, HY.le, HY.nrm, HY.rd, G0⟩
  clear HX HY G0
  have hsz := T0.sz
  go_wp2
  go_loopw [5, 6] (fun u v wr => ∃ (xo : Option Addr) (xn xc : Nat) (xs : List Int) (yo : Option Addr) (yn yc : Nat) (ys : List Int), u = .slice xo xn xc ∧ v = .slice yo yn yc ∧ GdI W wr xo xn xc xs yo yn yc ys k (Int.gcd x y)) (fun _ v wr => (val (digsOf wr v)).toNat)
  case atStart => exact ⟨ao, n, ca, xs, bo, m, cb, ys, rfl, rfl, I0⟩
  case round =>
    clear I0
    obtain ⟨xo, xn, xc, xs, yo, yn, yc, ys, rfl, rfl, I0⟩ := hrel
    by_cases hy0 : 0 < yn
    · have i1 : (0 : Int) < (yn : Int) := by omega
      have hyp := nrm_pos I0.ynrm (by intro e; have := I0.ylen; rw [e] at this; simp at this; omega)
      have hd := digs_of (cap := yc) I0.yrd I0.ylen
      go_wp2_with fail
      refine (divAbs_any xo yo xn yn xc yc xs ys _ I0.xlen I0.ylen I0.xnrm I0.ynrm I0.xrd I0.yrd I0.xcap (by have := I0.xle; omega) (by have := I0.yle; omega) (by omega)).mono ?_
      rintro e w4 ⟨qo, qn, qc, qs, ro, rn, rc, rs, rfl, -, ⟨r1, r2, r3, r4, r5, r6⟩, hB⟩
      have I1 : GdI W w4 yo yn yc ys ro rn rc rs k (Int.gcd x y) := ⟨I0.below.trans (hB.mono I0.below.size), I0.ylen, I0.ycap, I0.yle, I0.ynrm, I0.yrd.below hB (Nat.le_refl _), r1, r2, by have := I0.xle; omega, r4, r6, by rw [r5, gcd_step (val_nonneg I0.xnrm.1) (by omega)]; exact I0.gcd⟩
      have hlt : (val rs).toNat < (val ys).toNat := by
        have h1 := Int.emod_lt_of_pos (val xs) (show 0 < val ys by omega)
        have h2 := Int.emod_nonneg (val xs) (show val ys ≠ 0 by omega)
        rw [r5]
        omega
      have hd2 := digs_of (cap := rc) r6 r1
      clear I0 hB r1 r2 r3 r4 r5 r6
      go_wp2
      go_roundw
      case rel => exact ⟨yo, yn, yc, ys, ro, rn, rc, rs, rfl, rfl, I1⟩
      case measure => rw [hd, hd2]; exact hlt
    · obtain rfl : yn = 0 := by omega
      have hys : ys = [] := List.eq_nil_of_length_eq_zero I0.ylen
      have hG : val xs = ((Int.gcd x y : Int).natAbs : Int) := by
        rw [← I0.gcd, hys]
        have := val_nonneg I0.xnrm.1
        simp [val, Int.gcd]
        omega
      have T1 := T0.step I0.below
      have hxk := I0.xle
      clear q1 q3
      go_wp2_with fail
      refine (trim_any false xo xn xc xs _ I0.xlen I0.xcap I0.xnrm.1 I0.xrd (by omega)).mono ?_
      rintro e w3 ⟨neg', ao', n', cap', ds', rfl, k1, k2, k3, k4, k5, k6, k7, k8⟩
      have T2 := T1.step k8
      have HN := num_of (z := (Int.gcd x y : Int)) (k := k) k1 k2 (by omega) k4 (k5.trans hG) (k6.trans (by rw [hG])) k7 rfl (by intro _; simp)
      have c0 := T2.r0; have c1 := T2.r1; have f0 := T2.f0; have f1 := T2.f1
      have HB := T2.below
      clear k1 k2 k3 k4 k5 k6 k7 k8 T1 T2 I0
      go_wp2
      refine bodyPost_ret (v := .agg #[.bool neg', .slice ao' n' cap']) (by simp [results, Try.results92, go_sem, c0, c1]) rfl ?_
      exact num_ret (by omega) c0 c1 HN HB
end Go.Proofs.Ytnnojeggjnddpaa

/- The walk of the model's common divisor of two numbers of four words. -/
namespace Go.Proofs.Ytnnojeggjnddpaa
open Go.RowKit
end Go.Proofs.Ytnnojeggjnddpaa

/- Fractions: whether one is right. -/
namespace Go.Proofs.Ytnnojeggjnddpaa
open Go.RowKit
abbrev Rt (a3 a2 a1 a0 b3 b2 b1 b0 : Int) : Value := .agg #[.int .u64 a3, .int .u64 a2, .int .u64 a1, .int .u64 a0, .int .u64 b3, .int .u64 b2, .int .u64 b1, .int .u64 b0]
/-- Whether up / down is right. -/
def rightB (x y : Int) : Bool := decide (0 < y ∧ Int.gcd x y = 1)
set_option maxRecDepth 100000 in
set_option maxHeartbeats 2000000 in
theorem eqOne (c3 c2 c1 c0 : Int) (w : World) : (Op.equalIn 10000 26 (.agg #[.int .u64 c3, .int .u64 c2, .int .u64 c1, .int .u64 c0]) (.agg #[.int .u64 0, .int .u64 0, .int .u64 0, .int .u64 1])).run Try.prog w = .ok (c3 == 0 && c2 == 0 && c1 == 0 && c0 == 1) w := by
  have u3 := Try.underlying22
  have a3 := Try.isAgg22
  have z3 := Try.sizeOf22
  rw [show (10000 : Nat) = 9999 + 1 from rfl, Op.equalIn]
  simp only [Sem.run_bind, run_underlying Try.underlying26, Result.andThen_ok]
  go_simp
  by_cases hc3 : c3 = 0
  · subst hc3
    by_cases hc2 : c2 = 0
    · subst hc2
      by_cases hc1 : c1 = 0
      · subst hc1
        by_cases hc0 : c0 = 1
        · subst hc0
          simp
        · simp [hc0]
      · simp [hc1]
    · simp [hc2]
  · simp [hc3]
theorem one_words {c3 c2 c1 c0 : Int} (h3 : Word c3) (h2 : Word c2) (h1 : Word c1) (h0 : Word c0) {z : Int} (hz : sw c3 c2 c1 c0 = z) : (c3 == 0 && c2 == 0 && c1 == 0 && c0 == 1) = decide (z = 1) := by
  rw [Bool.eq_iff_iff]
  simp only [Bool.and_eq_true, beq_iff_eq, decide_eq_true_eq]
  constructor
  · rintro ⟨⟨⟨rfl, rfl⟩, rfl⟩, rfl⟩
    rw [← hz]; decide
  · intro h
    have e : sw 0 0 0 1 = 1 := by decide
    obtain ⟨e3, e2, e1, e0⟩ := sw_inj h3 h2 h1 h0 ⟨by decide, by decide⟩ ⟨by decide, by decide⟩ ⟨by decide, by decide⟩ ⟨by decide, by decide⟩ (hz.trans (h.trans e.symm))
    exact ⟨⟨⟨e3, e2⟩, e1⟩, e0⟩
theorem sw_one {c3 c2 c1 c0 : Int} (h3 : Word c3) (h2 : Word c2) (h1 : Word c1) (h0 : Word c0) (hz : sw c3 c2 c1 c0 = 1) : c3 = 0 ∧ c2 = 0 ∧ c1 = 0 ∧ c0 = 1 := by
  have e : sw 0 0 0 1 = 1 := by decide
  exact sw_inj h3 h2 h1 h0 ⟨by decide, by decide⟩ ⟨by decide, by decide⟩ ⟨by decide, by decide⟩ ⟨by decide, by decide⟩ (hz.trans e.symm)
theorem rt_cells {b3 b2 b1 b0 c3 c2 c1 c0 a3 a2 a1 a0 : Int} {w W : World} {gc : Nat} (X : Blk W w.heap.size [.int .u64 a3, .int .u64 a2, .int .u64 a1, .int .u64 a0, .int .u64 b3, .int .u64 b2, .int .u64 b1, .int .u64 b0]) (Y : Blk W gc [.int .u64 c3, .int .u64 c2, .int .u64 c1, .int .u64 c0]) : (fun w' => w'.cell? ⟨w.heap.size, 4, none⟩ = some (.int .u64 b3) ∧ w'.cell? ⟨w.heap.size, 5, none⟩ = some (.int .u64 b2) ∧ w'.cell? ⟨w.heap.size, 6, none⟩ = some (.int .u64 b1) ∧ w'.cell? ⟨w.heap.size, 7, none⟩ = some (.int .u64 b0) ∧ w'.cell? ⟨gc, 0, none⟩ = some (.int .u64 c3) ∧ w'.cell? ⟨gc, 1, none⟩ = some (.int .u64 c2) ∧ w'.cell? ⟨gc, 2, none⟩ = some (.int .u64 c1) ∧ w'.cell? ⟨gc, 3, none⟩ = some (.int .u64 c0)) W :=
  ⟨X.c 4 rfl, X.c 5 rfl, X.c 6 rfl, X.c 7 rfl, Y.c 0 rfl, Y.c 1 rfl, Y.c 2 rfl, Y.c 3 rfl⟩
set_option maxRecDepth 100000 in
set_option maxHeartbeats 2000000 in
theorem right_any (a3 a2 a1 a0 b3 b2 b1 b0 : Int) (h3 : Word a3) (h2 : Word a2) (h1 : Word a1) (h0 : Word a0) (k3 : Word b3) (k2 : Word b2) (k1 : Word b1) (k0 : Word b0) (w : World) : Calls Try.prog 58 #[Rt a3 a2 a1 a0 b3 b2 b1 b0] w (BoolP (rightB (sw a3 a2 a1 a0) (sw b3 b2 b1 b0)) w) := by
  have X0 := Blk.new w [.int .u64 a3, .int .u64 a2, .int .u64 a1, .int .u64 a0, .int .u64 b3, .int .u64 b2, .int .u64 b1, .int .u64 b0] 37 rfl
  have HB := (Below.refl _ w).alloc (Nat.le_refl _) (.cells #[.int .u64 a3, .int .u64 a2, .int .u64 a1, .int .u64 a0, .int .u64 b3, .int .u64 b2, .int .u64 b1, .int .u64 b0] 37)
  go_enter Try.func58, Try.ntmps58
  go_wp2_with fail
  refine (implGcd_any a3 a2 a1 a0 b3 b2 b1 b0 h3 h2 h1 h0 k3 k2 k1 k0 _).mono ?_
  rintro e w1 ⟨hB, ⟨ht, c3, c2, c1, c0, rfl, g3, g2, g1, g0, gv⟩ | ⟨ht, rfl⟩⟩
  · replace X0 := X0.step hB
    replace HB := HB.trans (hB.mono HB.size)
    have xlt := X0.lt
    go_upto_region 2 with fail
    have Y0 := Blk.new w1 [.int .u64 c3, .int .u64 c2, .int .u64 c1, .int .u64 c0] 26 rfl
    replace X0 := X0.alloc (.cells #[.int .u64 c3, .int .u64 c2, .int .u64 c1, .int .u64 c0] 26)
    replace HB := HB.alloc HB.size (.cells #[.int .u64 c3, .int .u64 c2, .int .u64 c1, .int .u64 c0] 26)
    rw [show ([.int .u64 c3, .int .u64 c2, .int .u64 c1, .int .u64 c0] : List Value).toArray = #[.int .u64 c3, .int .u64 c2, .int .u64 c1, .int .u64 c0] from rfl] at Y0
    generalize w1.alloc (.cells #[.int .u64 c3, .int .u64 c2, .int .u64 c1, .int .u64 c0] 26) = W at *
    generalize w1.heap.size = gc at *
    have EO := eqOne c3 c2 c1 c0
    rw [one_words g3 g2 g1 g0 gv] at EO
    obtain ⟨G, hG⟩ : ∃ G, decide (((Int.gcd (sw a3 a2 a1 a0) (sw b3 b2 b1 b0) : Nat) : Int) = 1) = G := ⟨_, rfl⟩
    simp only [hG] at EO
    have HG : Hid (G = decide (Int.gcd (sw a3 a2 a1 a0) (sw b3 b2 b1 b0) = 1)) := by
      show _ = _
      rw [← hG, Bool.eq_iff_iff]
      simp only [decide_eq_true_eq]
      omega
    have SG := implSign_any b3 b2 b1 b0 k3 k2 k1 k0
    have OF := fun W => implOf_any 1 W (by decide) (by decide)
    clear hB ht gv hG
    by_cases hs : 0 < sw b3 b2 b1 b0
    · rw [cmpI_gt hs] at SG
      have HR : Hid (rightB (sw a3 a2 a1 a0) (sw b3 b2 b1 b0) = G) := by
        show _ = _
        rw [HG.out]
        unfold rightB
        simp [hs]
      clear HG
      go_region_held3 (fun w' => w'.cell? ⟨w.heap.size, 4, none⟩ = some (.int .u64 b3) ∧ w'.cell? ⟨w.heap.size, 5, none⟩ = some (.int .u64 b2) ∧ w'.cell? ⟨w.heap.size, 6, none⟩ = some (.int .u64 b1) ∧ w'.cell? ⟨w.heap.size, 7, none⟩ = some (.int .u64 b0) ∧ w'.cell? ⟨gc, 0, none⟩ = some (.int .u64 c3) ∧ w'.cell? ⟨gc, 1, none⟩ = some (.int .u64 c2) ∧ w'.cell? ⟨gc, 2, none⟩ = some (.int .u64 c1) ∧ w'.cell? ⟨gc, 3, none⟩ = some (.int .u64 c0)) (first | (with_reducible exact rt_cells X0 Y0) | (with_reducible exact rt_cells X0.drew Y0.drew))
        (first
          | (go_at_call 34; refine (SG _).mono ?_; rintro e w2 ⟨rfl, hB⟩; (first | (replace X0 := X0.step hB; replace Y0 := Y0.step hB; replace HB := HB.trans (hB.mono HB.size)) | (replace X0 := X0.drew.step hB; replace Y0 := Y0.drew.step hB; replace HB := HB.drew.trans (hB.mono HB.size))); clear hB)
          | (go_at_call 95; refine (OF _).mono ?_; rintro e w3 ⟨o3, o2, o1, o0, rfl, p3, p2, p1, p0, po, hB⟩; obtain ⟨rfl, rfl, rfl, rfl⟩ := sw_one p3 p2 p1 p0 po; (first | (replace X0 := X0.step hB; replace Y0 := Y0.step hB; replace HB := HB.trans (hB.mono HB.size)) | (replace X0 := X0.drew.step hB; replace Y0 := Y0.drew.step hB; replace HB := HB.drew.trans (hB.mono HB.size))); clear hB))
      all_goals go_wp2
      all_goals go_ret
      all_goals exact ⟨by simp [HR.out], by first | exact HB | exact HB.drew⟩
    · have HR : Hid (rightB (sw a3 a2 a1 a0) (sw b3 b2 b1 b0) = false) := by
        show _ = _
        unfold rightB
        simp [hs]
      have hcs : cmpI (sw b3 b2 b1 b0) 0 = -1 ∨ cmpI (sw b3 b2 b1 b0) 0 = 0 := by
        rcases Int.lt_trichotomy (sw b3 b2 b1 b0) 0 with h | h | h
        · exact Or.inl (cmpI_lt h)
        · exact Or.inr (cmpI_eq h)
        · exact absurd h hs
      clear HG
      have hm1 : ((-1 : Int) == 1) = false := by decide
      have hm0 : ((0 : Int) == 1) = false := by decide
      rcases hcs with hc | hc
      · rw [hc] at SG
        clear hc
        have q4 := X0.c 4 rfl; have q5 := X0.c 5 rfl; have q6 := X0.c 6 rfl; have q7 := X0.c 7 rfl
        go_region_with ((go_at_call 34; refine (SG _).mono ?_; rintro e w2 ⟨rfl, hB⟩; (first | (replace HB := HB.trans (hB.mono HB.size)) | (replace HB := HB.drew.trans (hB.mono HB.size))); clear hB))
        all_goals go_wp2
        all_goals go_ret
        all_goals exact ⟨by rw [HR.out]; rfl, by first | exact HB | exact HB.drew⟩
      · rw [hc] at SG
        clear hc
        have q4 := X0.c 4 rfl; have q5 := X0.c 5 rfl; have q6 := X0.c 6 rfl; have q7 := X0.c 7 rfl
        go_region_with ((go_at_call 34; refine (SG _).mono ?_; rintro e w2 ⟨rfl, hB⟩; (first | (replace HB := HB.trans (hB.mono HB.size)) | (replace HB := HB.drew.trans (hB.mono HB.size))); clear hB))
        all_goals go_wp2
        all_goals go_ret
        all_goals exact ⟨by rw [HR.out]; rfl, by first | exact HB | exact HB.drew⟩
  · replace HB := HB.trans (hB.mono HB.size)
    have HR : Hid (rightB (sw a3 a2 a1 a0) (sw b3 b2 b1 b0) = false) := by
      show _ = _
      unfold rightB
      apply decide_eq_false
      rintro ⟨_, h⟩
      rw [h] at ht
      revert ht
      decide
    clear hB ht X0
    go_upto_region 2 with fail
    replace HB := HB.alloc HB.size (.cells #[.int .u64 0, .int .u64 0, .int .u64 0, .int .u64 0] 26)
    generalize w1.alloc (.cells #[.int .u64 0, .int .u64 0, .int .u64 0, .int .u64 0] 26) = W at *
    go_quiet (fail)
    go_wp2
    go_ret
    exact ⟨by simp [HR.out], bdrew HB _⟩
/-- Two numbers as they lie in memory, side by side. -/
def TwoNP (x y : Int) (w : World) (e : Ending) (w' : World) : Prop :=
  ∃ (s : Bool) (ao : Option Addr) (n cap : Nat) (ds : List Int) (t : Bool) (bo : Option Addr) (m c : Nat) (es : List Int), e = .returned (.agg #[.bool s, .slice ao n cap, .bool t, .slice bo m c]) ∧ IsNum w' s ao n cap ds x 8 ∧ IsNum w' t bo m c es y 8 ∧ Below w.heap.size w w'
theorem IsNum.set {w : World} {s : Bool} {ao : Option Addr} {n cap : Nat} {ds : List Int} {z : Int} {k : Nat} (h : IsNum w s ao n cap ds z k) {p : Addr} {v : Value} (h0 : w.cell? p = some v) (hv : ∀ i, v ≠ .int .u32 i) (u : Value) : IsNum (w.setCell p u) s ao n cap ds z k :=
  ⟨h.neg, h.len, h.cap, h.rd.set u h0 hv, h.nrm, h.val, h.le⟩
theorem twoN_ret {w w3 : World} {x y : Int} {s : Bool} {ao : Option Addr} {n cap : Nat} {ds : List Int} {t : Bool} {bo : Option Addr} {m c : Nat} {es : List Int} {R : Nat} (hR : w.heap.size ≤ R) (G : Blk w3 R [.bool false, .slice none 0 0, .bool false, .slice none 0 0]) (h : IsNum w3 s ao n cap ds x 8) (h' : IsNum w3 t bo m c es y 8) (hb : Below w.heap.size w w3) :
    TwoNP x y w (.returned (.agg #[.bool s, .slice ao n cap, .bool t, .slice bo m c])) ((((w3.setCell ⟨R, 0, none⟩ (.bool s)).setCell ⟨R, 1, none⟩ (.slice ao n cap)).setCell ⟨R, 2, none⟩ (.bool t)).setCell ⟨R, 3, none⟩ (.slice bo m c)) := by
  have G1 := G.setI 0 (by simp) (.bool s)
  have G2 := G1.setI 1 (by simp) (.slice ao n cap)
  have G3 := G2.setI 2 (by simp) (.bool t)
  refine ⟨s, ao, n, cap, ds, t, bo, m, c, es, rfl, ?_, ?_, (((hb.setCell hR _).setCell hR _).setCell hR _).setCell hR _⟩
  · exact (((h.set (G.c 0 rfl) (by simp) _).set (G1.c 1 rfl) (by simp) _).set (G2.c 2 rfl) (by simp) _).set (G3.c 3 rfl) (by simp) _
  · exact (((h'.set (G.c 0 rfl) (by simp) _).set (G1.c 1 rfl) (by simp) _).set (G2.c 2 rfl) (by simp) _).set (G3.c 3 rfl) (by simp) _
theorem TwoNP.drew {x y : Int} {w w' : World} {e : Ending} (h : TwoNP x y w e w') : TwoNP x y w e w'.drew := by
  obtain ⟨s, ao, n, cap, ds, t, bo, m, c, es, he, N1, N2, hB⟩ := h
  exact ⟨s, ao, n, cap, ds, t, bo, m, c, es, he, ⟨N1.neg, N1.len, N1.cap, N1.rd, N1.nrm, N1.val, N1.le⟩, ⟨N2.neg, N2.len, N2.cap, N2.rd, N2.nrm, N2.val, N2.le⟩, hB.drew⟩
theorem l2_cells {a3 a2 a1 a0 b3 b2 b1 b0 : Int} {w W : World} (X : Blk W w.heap.size [.int .u64 a3, .int .u64 a2, .int .u64 a1, .int .u64 a0, .int .u64 b3, .int .u64 b2, .int .u64 b1, .int .u64 b0]) : (fun w' => w'.cell? ⟨w.heap.size, 0, none⟩ = some (.int .u64 a3) ∧ w'.cell? ⟨w.heap.size, 1, none⟩ = some (.int .u64 a2) ∧ w'.cell? ⟨w.heap.size, 2, none⟩ = some (.int .u64 a1) ∧ w'.cell? ⟨w.heap.size, 3, none⟩ = some (.int .u64 a0) ∧ w'.cell? ⟨w.heap.size, 4, none⟩ = some (.int .u64 b3) ∧ w'.cell? ⟨w.heap.size, 5, none⟩ = some (.int .u64 b2) ∧ w'.cell? ⟨w.heap.size, 6, none⟩ = some (.int .u64 b1) ∧ w'.cell? ⟨w.heap.size, 7, none⟩ = some (.int .u64 b0)) W :=
  ⟨X.c 0 rfl, X.c 1 rfl, X.c 2 rfl, X.c 3 rfl, X.c 4 rfl, X.c 5 rfl, X.c 6 rfl, X.c 7 rfl⟩
set_option maxRecDepth 100000 in
set_option maxHeartbeats 1000000 in
theorem l2Of_any (a3 a2 a1 a0 b3 b2 b1 b0 : Int) (h3 : Word a3) (h2 : Word a2) (h1 : Word a1) (h0 : Word a0) (k3 : Word b3) (k2 : Word b2) (k1 : Word b1) (k0 : Word b0) (w : World) : Calls Try.prog 55 #[Rt a3 a2 a1 a0 b3 b2 b1 b0] w (TwoNP (sw a3 a2 a1 a0) (sw b3 b2 b1 b0) w) := by
  have X0 := (Blk.new w [.int .u64 a3, .int .u64 a2, .int .u64 a1, .int .u64 a0, .int .u64 b3, .int .u64 b2, .int .u64 b1, .int .u64 b0] 37 rfl).alloc (.cells #[.bool false, .slice none 0 0, .bool false, .slice none 0 0] 86)
  have Y0 := Blk.new (w.alloc (.cells #[.int .u64 a3, .int .u64 a2, .int .u64 a1, .int .u64 a0, .int .u64 b3, .int .u64 b2, .int .u64 b1, .int .u64 b0] 37)) [.bool false, .slice none 0 0, .bool false, .slice none 0 0] 86 (g := w.heap.size + 1) (by simp)
  have HB := ((Below.refl _ w).alloc (Nat.le_refl _) (.cells #[.int .u64 a3, .int .u64 a2, .int .u64 a1, .int .u64 a0, .int .u64 b3, .int .u64 b2, .int .u64 b1, .int .u64 b0] 37)).alloc (by simp) (.cells #[.bool false, .slice none 0 0, .bool false, .slice none 0 0] 86)
  have tok1 : True := trivial
  rw [show ([.int .u64 a3, .int .u64 a2, .int .u64 a1, .int .u64 a0, .int .u64 b3, .int .u64 b2, .int .u64 b1, .int .u64 b0] : List Value).toArray = #[.int .u64 a3, .int .u64 a2, .int .u64 a1, .int .u64 a0, .int .u64 b3, .int .u64 b2, .int .u64 b1, .int .u64 b0] from rfl] at X0
  go_enter Try.func55, Try.ntmps55
  go_wp2_with fail
  generalize (w.alloc (.cells #[.int .u64 a3, .int .u64 a2, .int .u64 a1, .int .u64 a0, .int .u64 b3, .int .u64 b2, .int .u64 b1, .int .u64 b0] 37)).alloc (.cells #[.bool false, .slice none 0 0, .bool false, .slice none 0 0] 86) = W at *
  go_region_held3 (fun w' => w'.cell? ⟨w.heap.size, 0, none⟩ = some (.int .u64 a3) ∧ w'.cell? ⟨w.heap.size, 1, none⟩ = some (.int .u64 a2) ∧ w'.cell? ⟨w.heap.size, 2, none⟩ = some (.int .u64 a1) ∧ w'.cell? ⟨w.heap.size, 3, none⟩ = some (.int .u64 a0) ∧ w'.cell? ⟨w.heap.size, 4, none⟩ = some (.int .u64 b3) ∧ w'.cell? ⟨w.heap.size, 5, none⟩ = some (.int .u64 b2) ∧ w'.cell? ⟨w.heap.size, 6, none⟩ = some (.int .u64 b1) ∧ w'.cell? ⟨w.heap.size, 7, none⟩ = some (.int .u64 b0)) (first | (with_reducible exact l2_cells X0) | (with_reducible exact l2_cells X0.drew) | (refine l2_cells ?_; repeat (first | (with_reducible exact X0) | (with_reducible exact X0.drew) | (with_reducible refine Blk.setO ?_ (by show w.heap.size ≠ w.heap.size + 1; omega) _))))
    (first
      | (go_at_call 43; have _t := tok1; refine (from_any a3 a2 a1 a0 h3 h2 h1 h0 _).mono ?_; rintro e w1 ⟨s1, ao1, n1, c1, ds1, rfl, N1, hB⟩; (first | (replace X0 := X0.step hB; replace Y0 := Y0.step hB; replace HB := HB.trans (hB.mono HB.size)) | (replace X0 := X0.drew.step hB; replace Y0 := Y0.drew.step hB; replace HB := HB.drew.trans (hB.mono HB.size))); clear tok1 _t hB)
      | (go_at_call 43; refine (from_any b3 b2 b1 b0 k3 k2 k1 k0 _).mono ?_; rintro e w2 ⟨s2, ao2, n2, c2, ds2, rfl, N2, hB⟩; (first | (replace X0 := X0.step hB; replace Y0 := Y0.step hB; replace HB := HB.trans (hB.mono HB.size); replace N1 := N1.below hB) | (replace X0 := X0.drew.step hB; replace Y0 := Y0.drew.step hB; replace HB := HB.drew.trans (hB.mono HB.size); replace N1 := N1.drew.below hB)); have o0 := Y0.c 0 rfl; have p0 := Y0.f 0 rfl; have o1 := Y0.c 1 rfl; have p1 := Y0.f 1 rfl; have o2 := Y0.c 2 rfl; have p2 := Y0.f 2 rfl; have o3 := Y0.c 3 rfl; have p3 := Y0.f 3 rfl; have olt := Y0.lt; clear hB))
  all_goals have HF : Hid (TwoNP (sw a3 a2 a1 a0) (sw b3 b2 b1 b0) w (.returned (.agg #[.bool s1, .slice ao1 n1 c1, .bool s2, .slice ao2 n2 c2])) _) := twoN_ret (R := w.heap.size + 1) (by omega) Y0 N1 N2 HB
  all_goals clear X0 Y0 N1 N2 HB
  all_goals go_wp2
  all_goals refine bodyPost_ret (v := .agg #[.bool s1, .slice ao1 n1 c1, .bool s2, .slice ao2 n2 c2]) (by simp [results, Try.results55, go_sem, o0, o1, o2, o3]) rfl ?_
  all_goals first | exact HF.out | exact HF.out.drew
end Go.Proofs.Ytnnojeggjnddpaa

/- Fractions in their order: the program's walks. -/
namespace Go.Proofs.Ytnnojeggjnddpaa
open Go.RowKit
end Go.Proofs.Ytnnojeggjnddpaa

/- The quotient and the rest of numbers with signs: the reckoning. -/
namespace Go.Proofs.Ytnnojeggjnddpaa
open Go.RowKit
end Go.Proofs.Ytnnojeggjnddpaa

/- Quotients with their signs: the reckoning, and the walks of the pieces. -/
namespace Go.Proofs.Ytnnojeggjnddpaa
open Go.RowKit
/-- The number with its sign turned where b holds. -/
theorem signedL_any (x0 x1 x2 x3 x4 x5 x6 x7 : Int) (b : Bool) (wx : Words [x0, x1, x2, x3, x4, x5, x6, x7]) (hv : val64 [x0, x1, x2, x3, x4, x5, x6, x7] < 6703903964971298549787012499102923063739682910296196688861780721860882015036773488400937149083451713845015929093243025426876941405973284973216824503042048) (w : World) : Calls Try.prog 53 #[L8 x0 x1 x2 x3 x4 x5 x6 x7, .bool b] w (TimesP (if b then -val64 [x0, x1, x2, x3, x4, x5, x6, x7] else val64 [x0, x1, x2, x3, x4, x5, x6, x7]) w) := by
  refine (signed_any x0 x1 x2 x3 x4 x5 x6 x7 b wx w).mono ?_
  rintro e w1 ⟨z0, z1, z2, z3, z4, z5, z6, z7, rfl, wz, ⟨c, c0, c1, hz⟩, hB⟩
  refine ⟨z0, z1, z2, z3, z4, z5, z6, z7, rfl, wz, ?_, hB⟩
  obtain ⟨t1, t2, t3⟩ := sl_top wz
  have v0 := val64_nonneg wx
  unfold sl
  generalize val64 [z0, z1, z2, z3, z4, z5, z6, z7] = Z at *
  generalize val64 [x0, x1, x2, x3, x4, x5, x6, x7] = X at *
  simp only [t1]
  clear t1
  cases b
  · simp only [Bool.false_eq_true, if_false] at hz ⊢
    rw [if_pos (by omega)]
    omega
  · simp only [if_true] at hz ⊢
    obtain rfl | rfl : c = 0 ∨ c = 1 := by omega
    · rw [if_pos (by omega)]; omega
    · rw [if_neg (by omega)]; omega
/-- What is told, its words known ahead. -/
def tellV (z : Int) : Value := if told z then .tuple #[W4 z, .bool true] else .tuple #[W4 0, .bool false]
theorem tellWide_det (x0 x1 x2 x3 x4 x5 x6 x7 : Int) (wx : Words [x0, x1, x2, x3, x4, x5, x6, x7]) (z : Int) (hz : sl x0 x1 x2 x3 x4 x5 x6 x7 = z) (w : World) : Calls Try.prog 52 #[L8 x0 x1 x2 x3 x4 x5 x6 x7] w (VP (tellV z) w) := by
  refine (tellWide_any x0 x1 x2 x3 x4 x5 x6 x7 wx w).mono ?_
  rw [hz]
  rintro e w' ⟨hB, ⟨ht, a3, a2, a1, a0, rfl, g3, g2, g1, g0, hs⟩ | ⟨ht, rfl⟩⟩
  · obtain ⟨rfl, rfl, rfl, rfl⟩ := wd_of g3 g2 g1 g0 hs
    exact ⟨by unfold tellV; rw [ht]; rfl, hB⟩
  · exact ⟨by unfold tellV; rw [ht]; rfl, hB⟩
end Go.Proofs.Ytnnojeggjnddpaa

/- The program's quotient of two numbers of four words: what lies in memory around the division. -/
namespace Go.Proofs.Ytnnojeggjnddpaa
open Go.RowKit
theorem ArgsB.set8 {w W : World} {a b c d : List Value} (h : ArgsB w W [a, b, c, d]) {g : Nat} (hg : w.heap.size + 3 < g) (v0 v1 v2 v3 v4 v5 v6 v7 : Value) : ArgsB w ((((((((W.setCell ⟨g, 0, none⟩ v0).setCell ⟨g, 1, none⟩ v1).setCell ⟨g, 2, none⟩ v2).setCell ⟨g, 3, none⟩ v3).setCell ⟨g, 4, none⟩ v4).setCell ⟨g, 5, none⟩ v5).setCell ⟨g, 6, none⟩ v6).setCell ⟨g, 7, none⟩ v7) [a, b, c, d] :=
  ((((((((h.set (by exact hg) _).set (by exact hg) _).set (by exact hg) _).set (by exact hg) _).set (by exact hg) _).set (by exact hg) _).set (by exact hg) _).set (by exact hg) _)
end Go.Proofs.Ytnnojeggjnddpaa

/- Sums of numbers of eight words, and that words tell a number. -/
namespace Go.Proofs.Ytnnojeggjnddpaa
open Go.RowKit
end Go.Proofs.Ytnnojeggjnddpaa

/- The walk of the program's quotient and rest of two numbers of four words. -/
namespace Go.Proofs.Ytnnojeggjnddpaa
open Go.RowKit
theorem W40 : W4 0 = .agg #[.int .u64 0, .int .u64 0, .int .u64 0, .int .u64 0] := by simp [ww3, ww2, ww1, ww0]
end Go.Proofs.Ytnnojeggjnddpaa

/- Rows of eight values laid behind the arguments. -/
namespace Go.Proofs.Ytnnojeggjnddpaa
open Go.RowKit
end Go.Proofs.Ytnnojeggjnddpaa

/- The walk of what a long is when it is divided by a divisor of it, told as four words. -/
namespace Go.Proofs.Ytnnojeggjnddpaa
open Go.RowKit
end Go.Proofs.Ytnnojeggjnddpaa

/- A spot as a point: the walks of the model's numbers. -/
namespace Go.Proofs.Ytnnojeggjnddpaa
open Go.RowKit
end Go.Proofs.Ytnnojeggjnddpaa

/- A spot as a point: the walks of the model's point of numbers. -/
namespace Go.Proofs.Ytnnojeggjnddpaa
open Go.RowKit
end Go.Proofs.Ytnnojeggjnddpaa

/- Numbers by their own words: what is answered is known ahead. -/
namespace Go.Proofs.Ytnnojeggjnddpaa
open Go.RowKit
theorem ww_words (z : Int) : Word (ww3 z) ∧ Word (ww2 z) ∧ Word (ww1 z) ∧ Word (ww0 z) := by
  have h : ∀ x : Int, Word (x % 18446744073709551616) := fun x => ⟨Int.emod_nonneg _ (by decide), Int.emod_lt_of_pos _ (by decide)⟩
  exact ⟨h _, h _, h _, h _⟩
theorem ww_sw {z : Int} (h : told z = true) : sw (ww3 z) (ww2 z) (ww1 z) (ww0 z) = z := by
  unfold told at h
  rw [decide_eq_true_iff] at h
  unfold sw uw ww3 ww2 ww1 ww0
  split <;> omega
end Go.Proofs.Ytnnojeggjnddpaa

/- Points: the program's walks. -/
namespace Go.Proofs.Ytnnojeggjnddpaa
open Go.RowKit
theorem ArgsB.more {w W : World} {vss : List (List Value)} (h : ArgsB w W vss) (hl : W.heap.size = w.heap.size + vss.length) (b : List Value) (T : TypeId) : ArgsB w (W.alloc (.cells b.toArray T)) (vss ++ [b]) := by
  refine ⟨(h.alloc _).below, fun j vs hj => ?_⟩
  rcases Nat.lt_trichotomy j vss.length with hlt | rfl | hgt
  · rw [List.getElem?_append_left hlt] at hj
    exact (h.b j hj).alloc _
  · simp at hj
    subst hj
    exact Blk.new W b T hl.symm
  · rw [List.getElem?_eq_none (by simp; omega)] at hj
    cases hj
theorem ArgsB.left {w W : World} {us vs : List (List Value)} (h : ArgsB w W (us ++ vs)) : ArgsB w W us := by
  refine ⟨h.below, fun j xs hj => h.b j ?_⟩
  rw [List.getElem?_append_left]
  · exact hj
  · rcases Nat.lt_or_ge j us.length with h | h
    · exact h
    · rw [List.getElem?_eq_none h] at hj; cases hj
end Go.Proofs.Ytnnojeggjnddpaa

/- Points: what three numbers have in common. -/
namespace Go.Proofs.Ytnnojeggjnddpaa
open Go.RowKit
end Go.Proofs.Ytnnojeggjnddpaa

/- Points: whether one is right, by the program. -/
namespace Go.Proofs.Ytnnojeggjnddpaa
open Go.RowKit
abbrev PV (x y z : Int) : Value := .agg #[.int .u64 (ww3 x), .int .u64 (ww2 x), .int .u64 (ww1 x), .int .u64 (ww0 x), .int .u64 (ww3 y), .int .u64 (ww2 y), .int .u64 (ww1 y), .int .u64 (ww0 y), .int .u64 (ww3 z), .int .u64 (ww2 z), .int .u64 (ww1 z), .int .u64 (ww0 z)]
end Go.Proofs.Ytnnojeggjnddpaa

/- The walk of the model's quotient and rest of numbers with signs. -/
namespace Go.Proofs.Ytnnojeggjnddpaa
open Go.RowKit
theorem num_put {w : World} {s : Bool} {ao : Option Addr} {n cap : Nat} {ds : List Int} {z : Int} {k R : Nat} {p : Bool} {q : Option Addr} {q1 q2 : Nat} (h : IsNum w s ao n cap ds z k) (B : Blk w R [.bool p, .slice q q1 q2]) (u0 u1 : Value) : IsNum ((w.setCell ⟨R, 0, none⟩ u0).setCell ⟨R, 1, none⟩ u1) s ao n cap ds z k := by
  have h1 := h.rd.set u0 (B.c 0 rfl) (by intro x e; cases e)
  have B1 := B.setI 0 (by simp) u0
  have h2 := h1.set u1 (B1.c 1 rfl) (by intro x e; cases e)
  exact ⟨h.neg, h.len, h.cap, h2, h.nrm, h.val, h.le⟩
theorem num_more {w : World} {s : Bool} {ao : Option Addr} {n cap : Nat} {ds : List Int} {z : Int} {k k' : Nat} (h : IsNum w s ao n cap ds z k) (hk : k ≤ k') : IsNum w s ao n cap ds z k' := ⟨h.neg, h.len, h.cap, h.rd, h.nrm, h.val, Nat.le_trans h.le hk⟩
end Go.Proofs.Ytnnojeggjnddpaa

/- A spot as a point: the walks of the model's point, told, of the program's, and of the law. -/
namespace Go.Proofs.Ytnnojeggjnddpaa
open Go.RowKit
end Go.Proofs.Ytnnojeggjnddpaa

/- Points: the model's numbers of a point, and whether it is right. -/
namespace Go.Proofs.Ytnnojeggjnddpaa
open Go.RowKit
end Go.Proofs.Ytnnojeggjnddpaa

/- Points: the model's word on whether one is right. -/
namespace Go.Proofs.Ytnnojeggjnddpaa
open Go.RowKit
end Go.Proofs.Ytnnojeggjnddpaa

/- Fractions: the model's word on whether one is right, and the law over both. -/
namespace Go.Proofs.Ytnnojeggjnddpaa
open Go.RowKit
set_option maxRecDepth 100000 in
set_option maxHeartbeats 2000000 in
theorem specRatioOk_any (a3 a2 a1 a0 b3 b2 b1 b0 : Int) (h3 : Word a3) (h2 : Word a2) (h1 : Word a1) (h0 : Word a0) (k3 : Word b3) (k2 : Word b2) (k1 : Word b1) (k0 : Word b0) (w : World) : Calls Try.prog 54 #[Rt a3 a2 a1 a0 b3 b2 b1 b0] w (BoolP (rightB (sw a3 a2 a1 a0) (sw b3 b2 b1 b0)) w) := by
  have HB := (Below.refl _ w).alloc (Nat.le_refl _) (.cells #[.int .u64 a3, .int .u64 a2, .int .u64 a1, .int .u64 a0, .int .u64 b3, .int .u64 b2, .int .u64 b1, .int .u64 b0] 37)
  go_enter Try.func54, Try.ntmps54
  go_wp2_with fail
  refine (l2Of_any a3 a2 a1 a0 b3 b2 b1 b0 h3 h2 h1 h0 k3 k2 k1 k0 _).mono ?_
  rintro e w1 ⟨s, ao, n, cap, ds, t, bo, m, c, es, rfl, N1, N2, hB⟩
  replace HB := HB.trans (hB.mono HB.size)
  clear hB h3 h2 h1 h0 k3 k2 k1 k0
  generalize sw a3 a2 a1 a0 = x at *
  generalize sw b3 b2 b1 b0 = y at *
  go_upto_region 2 with fail
  have X0 : Blk (w1.alloc (.cells #[.bool s, .slice ao n cap, .bool t, .slice bo m c] 86)) w1.heap.size [.bool s, .slice ao n cap, .bool t, .slice bo m c] := Blk.new w1 [.bool s, .slice ao n cap, .bool t, .slice bo m c] 86 rfl
  replace N1 := N1.below ((Below.refl w1.heap.size w1).alloc (Nat.le_refl _) (.cells #[.bool s, .slice ao n cap, .bool t, .slice bo m c] 86))
  replace N2 := N2.below ((Below.refl w1.heap.size w1).alloc (Nat.le_refl _) (.cells #[.bool s, .slice ao n cap, .bool t, .slice bo m c] 86))
  replace HB := HB.alloc HB.size (.cells #[.bool s, .slice ao n cap, .bool t, .slice bo m c] 86)
  generalize w1.alloc (.cells #[.bool s, .slice ao n cap, .bool t, .slice bo m c] 86) = W at *
  generalize w1.heap.size = gx at *
  by_cases hs : 0 < y
  · obtain ⟨q, hq⟩ : ∃ q, cmpI (Int.gcd x y : Int) 1 = q := ⟨_, rfl⟩
    have HR : Hid (rightB x y = (q == 0)) := by
      show _ = _
      unfold rightB
      rw [← hq, Bool.eq_iff_iff]
      simp only [decide_eq_true_eq, beq_iff_eq]
      unfold cmpI
      split
      · constructor
        · rintro ⟨_, h⟩; omega
        · intro h; exact absurd h (by decide)
      · split
        · constructor
          · rintro ⟨_, h⟩; omega
          · intro h; exact absurd h (by decide)
        · exact ⟨fun _ => rfl, fun _ => ⟨hs, by omega⟩⟩
    have x0c := X0.c 0 rfl; have x1c := X0.c 1 rfl; have x2c := X0.c 2 rfl; have x3c := X0.c 3 rfl
    go_wp2_with fail
    refine (sign_any t bo m c es _ 8 _ N2).mono ?_
    rintro e w2 ⟨rfl, hB⟩
    rw [cmpI_gt hs]
    replace X0 := X0.step hB; replace HB := HB.trans (hB.mono HB.size); replace N1 := N1.below hB; replace N2 := N2.below hB
    clear hB x0c x1c x2c x3c
    have x0c := X0.c 0 rfl; have x1c := X0.c 1 rfl; have x2c := X0.c 2 rfl; have x3c := X0.c 3 rfl
    go_wp2_with fail
    refine (gcd_any s t ao bo n m cap c 8 ds es _ _ _ N1 N2 (by omega)).mono ?_
    rintro e w3 ⟨s3, ao3, n3, c3, ds3, rfl, N3, hB⟩
    replace HB := HB.trans (hB.mono HB.size)
    clear hB N1 N2 x0c x1c x2c x3c X0
    go_wp2_with fail
    refine (int_any 1 _ (by decide) (by decide)).mono ?_
    rintro e w4 ⟨s4, ao4, n4, c4, ds4, rfl, N4, hB⟩
    replace HB := HB.trans (hB.mono HB.size); replace N3 := N3.below hB
    clear hB
    go_wp2_with fail
    refine (cmp_any s3 s4 ao3 ao4 n3 n4 c3 c4 8 ds3 ds4 _ _ _ N3 (num_more N4 (by decide)) (by omega)).mono ?_
    rintro e w5 ⟨rfl, hB⟩
    rw [hq]
    replace HB := HB.trans (hB.mono HB.size)
    clear hB N3 N4 hq
    go_wp2
    go_ret
    exact ⟨by simp [HR.out], HB⟩
  · have HR : Hid (rightB x y = false) := by
      show _ = _
      unfold rightB
      simp [hs]
    have hcs : cmpI y 0 = -1 ∨ cmpI y 0 = 0 := by
      rcases Int.lt_trichotomy y 0 with h | h | h
      · exact Or.inl (cmpI_lt h)
      · exact Or.inr (cmpI_eq h)
      · exact absurd h hs
    have x0c := X0.c 0 rfl; have x1c := X0.c 1 rfl; have x2c := X0.c 2 rfl; have x3c := X0.c 3 rfl
    go_wp2_with fail
    refine (sign_any t bo m c es _ 8 _ N2).mono ?_
    rintro e w2 ⟨rfl, hB⟩
    replace HB := HB.trans (hB.mono HB.size)
    clear hB x0c x1c x2c x3c X0 N1 N2
    rcases hcs with hc | hc
    · rw [hc]
      go_wp2
      go_ret
      exact ⟨by rw [HR.out]; rfl, HB⟩
    · rw [hc]
      go_wp2
      go_ret
      exact ⟨by rw [HR.out]; rfl, HB⟩
end Go.Proofs.Ytnnojeggjnddpaa

/- A number read from its text: the reckoning, of no program. -/
namespace Go.Proofs.Ytnnojeggjnddpaa
/-- Bytes without a sign. -/
def cutM (l : List Nat) : List Nat := if l.head? = some 45 then l.tail else l
/-- That bytes are a number of at most 77 digits as it is written. -/
def RdOk (l : List Nat) : Prop := DecL (cutM l) ∧ (cutM l).length ≤ 77 ∧ ¬ (l.head? = some 45 ∧ cutM l = [48])
/-- The number that bytes stand for. -/
def rdI (l : List Nat) : Int := if l.head? = some 45 then -(rdN (cutM l) : Int) else (rdN (cutM l) : Int)
theorem cutM_neg {l : List Nat} (h : l.head? = some 45) : l = 45 :: cutM l := by
  unfold cutM
  rw [if_pos h]
  cases l with
  | nil => simp at h
  | cons x t => simp only [List.head?_cons, Option.some.injEq] at h; rw [h]; rfl
theorem cutM_pos {l : List Nat} (h : ¬ l.head? = some 45) : cutM l = l := by unfold cutM; rw [if_neg h]
theorem rd_tx {l : List Nat} (h : RdOk l) : txL (rdI l) = l := by
  obtain ⟨h1, h2, h3⟩ := h
  have h4 := dgs_rdN h1
  unfold txL rdI
  by_cases hn : l.head? = some 45
  · rw [if_pos hn]
    have h5 : rdN (cutM l) ≠ 0 := by
      intro h6
      rw [h6, dgs_zero] at h4
      exact h3 ⟨hn, h4.symm⟩
    rw [if_pos (by omega), Int.natAbs_neg, Int.natAbs_natCast, h4]
    exact (cutM_neg hn).symm
  · rw [if_neg hn, if_neg (by omega), Int.natAbs_natCast, h4, cutM_pos hn]
    rfl
theorem head_dgs (n : Nat) : ¬ (dgs n).head? = some 45 := by
  intro h
  have h1 := dgs_isD n 45 (List.mem_of_mem_head? h)
  unfold isD at h1
  omega
theorem tx_neg {z : Int} (h : z < 0) : txL z = 45 :: dgs z.natAbs := by unfold txL; rw [if_pos h]; rfl
theorem tx_pos {z : Int} (h : ¬ z < 0) : txL z = dgs z.natAbs := by unfold txL; rw [if_neg h]; rfl
theorem tx_rd {z : Int} (h : z.natAbs < 10 ^ 77) : RdOk (txL z) ∧ rdI (txL z) = z := by
  have h1 := dgs_dec z.natAbs
  have h2 := dgs_len (k := 77) (by omega) h
  by_cases hz : z < 0
  · have hc : cutM (txL z) = dgs z.natAbs := by unfold cutM; rw [tx_neg hz]; rfl
    have hh : (txL z).head? = some 45 := by rw [tx_neg hz]; rfl
    refine ⟨⟨by rw [hc]; exact h1, by rw [hc]; exact h2, fun h3 => ?_⟩, ?_⟩
    · rw [hc] at h3
      have h4 := congrArg rdN h3.2
      rw [rdN_dgs] at h4
      have : z.natAbs = 0 := h4
      omega
    · unfold rdI
      rw [if_pos hh, hc, rdN_dgs]
      omega
  · have hh : ¬ (txL z).head? = some 45 := by rw [tx_pos hz]; exact head_dgs _
    have hc : cutM (txL z) = dgs z.natAbs := by rw [cutM_pos hh, tx_pos hz]
    refine ⟨⟨by rw [hc]; exact h1, by rw [hc]; exact h2, fun h3 => hh h3.1⟩, ?_⟩
    unfold rdI
    rw [if_neg hh, hc, rdN_dgs]
    omega
theorem tx_len {z : Int} (h : z.natAbs < 10 ^ 77) : (txL z).length ≤ 78 := by
  have h2 := dgs_len (k := 77) (by omega) h
  by_cases hz : z < 0
  · rw [tx_neg hz, List.length_cons]; omega
  · rw [tx_pos hz]; omega
theorem tx_inj {x y : Int} (h : txL x = txL y) : x = y := by
  by_cases hx : x < 0 <;> by_cases hy : y < 0
  · rw [tx_neg hx, tx_neg hy, List.cons.injEq] at h
    have := congrArg rdN h.2
    rw [rdN_dgs, rdN_dgs] at this
    omega
  · rw [tx_neg hx, tx_pos hy] at h
    exact absurd (by rw [← h]; rfl) (head_dgs y.natAbs)
  · rw [tx_pos hx, tx_neg hy] at h
    exact absurd (by rw [h]; rfl) (head_dgs x.natAbs)
  · rw [tx_pos hx, tx_pos hy] at h
    have := congrArg rdN h
    rw [rdN_dgs, rdN_dgs] at this
    omega
/-- What is asked of bytes ahead of their digits. -/
def TestL (l : List Nat) : Prop := cutM l ≠ [] ∧ (cutM l).length ≤ 77 ∧ ¬ ((cutM l).head? = some 48 ∧ (l.head? = some 45 ∨ 1 < (cutM l).length))
theorem rdOk_iff {l : List Nat} : RdOk l ↔ TestL l ∧ ∀ b ∈ cutM l, isD b := by
  unfold RdOk TestL DecL
  constructor
  · rintro ⟨⟨h1, h2, h3⟩, h4, h5⟩
    refine ⟨⟨h1, h4, fun h => ?_⟩, h3⟩
    have h6 := h2 h.1
    rcases h.2 with h7 | h7
    · exact h5 ⟨h7, h6⟩
    · rw [h6] at h7; simp at h7
  · rintro ⟨⟨h1, h4, h5⟩, h3⟩
    refine ⟨⟨h1, fun h => ?_, h3⟩, h4, fun h => h5 ⟨by rw [h.2]; rfl, Or.inl h.1⟩⟩
    have h6 : ¬ 1 < (cutM l).length := fun h7 => h5 ⟨h, Or.inr h7⟩
    cases hc : cutM l with
    | nil => exact absurd hc h1
    | cons x t =>
      rw [hc] at h h6
      cases t with
      | nil => simp only [List.head?_cons, Option.some.injEq] at h; rw [h]
      | cons y m => simp at h6
theorem cutM_lt {l : List Nat} (h : ∀ b ∈ l, b < 256) : ∀ b ∈ cutM l, b < 256 := by
  intro b hb
  unfold cutM at hb
  split at hb
  · exact h b (List.mem_of_mem_tail hb)
  · exact h b hb
theorem cutM_len (l : List Nat) : (cutM l).length ≤ l.length := by
  unfold cutM
  split
  · rw [List.length_tail]; omega
  · exact Nat.le_refl _
theorem btL_extract (s : ByteArray) (a b : Nat) : btL (s.extract a b) = ((btL s).drop a).take (b - a) := by
  unfold btL
  rw [ByteArray.data_extract, Array.toList_extract, List.extract_eq_take_drop, List.map_take, List.map_drop]
end Go.Proofs.Ytnnojeggjnddpaa

/- The texts of fractions and of points: the program's. -/
namespace Go.Proofs.Ytnnojeggjnddpaa
open Go.RowKit
abbrev QV (x y : Int) : Value := .agg #[.int .u64 (ww3 x), .int .u64 (ww2 x), .int .u64 (ww1 x), .int .u64 (ww0 x), .int .u64 (ww3 y), .int .u64 (ww2 y), .int .u64 (ww1 y), .int .u64 (ww0 y)]
/-- What stands under a number, as it is written. -/
def unL (y : Int) : List Nat := if y = 1 then [] else 47 :: txL y
def raL (x y : Int) : List Nat := txL x ++ unL y
theorem unL_one : unL 1 = [] := by unfold unL; rw [if_pos rfl]
theorem unL_not {y : Int} (h : ¬ y = 1) : unL y = 47 :: txL y := by unfold unL; rw [if_neg h]
theorem told77 {z : Int} (h : told z = true) : z.natAbs < 10 ^ 77 := by
  have := of_decide_eq_true h
  omega
theorem txS_le {z : Int} (h : told z = true) : (txS z).size ≤ 78 := by
  unfold txS
  rw [strL_size]
  exact tx_len (told77 h)
theorem unL_le {y : Int} (h : told y = true) : (strL (unL y)).size ≤ 79 := by
  rw [strL_size]
  unfold unL
  have := tx_len (told77 h)
  split
  · simp
  · rw [List.length_cons]; omega
theorem one_det (w : World) : Calls Try.prog 95 #[.int .i64 1] w (VP (W4 1) w) := by
  refine (implOf_any 1 w (by decide) (by decide)).mono ?_
  rintro e w1 ⟨a3, a2, a1, a0, rfl, h3, h2, h1, h0, hz, hB⟩
  obtain ⟨rfl, rfl, rfl, rfl⟩ := wd_of h3 h2 h1 h0 hz
  exact ⟨rfl, hB⟩
theorem told_one : told 1 = true := by decide
set_option maxRecDepth 100000 in
set_option maxHeartbeats 2000000 in
theorem eqW10 (x u : Int) (hx : told x = true) (hu : told u = true) (w : World) : (Op.equalIn 10000 26 (W4 x) (W4 u)).run Try.prog w = .ok (decide (x = u)) w := by
  have E : ∀ a3 a2 a1 a0 b3 b2 b1 b0 : Int, (Op.equalIn 10000 26 (.agg #[.int .u64 a3, .int .u64 a2, .int .u64 a1, .int .u64 a0]) (.agg #[.int .u64 b3, .int .u64 b2, .int .u64 b1, .int .u64 b0])).run Try.prog w = .ok (a3 == b3 && a2 == b2 && a1 == b1 && a0 == b0) w := by
    intro a3 a2 a1 a0 b3 b2 b1 b0
    have u3 := Try.underlying22
    have a3' := Try.isAgg22
    have z3 := Try.sizeOf22
    rw [show (10000 : Nat) = 9999 + 1 from rfl, Op.equalIn]
    simp only [Sem.run_bind, run_underlying Try.underlying26, Result.andThen_ok]
    go_simp
    by_cases h3 : a3 = b3
    · subst h3
      by_cases h2 : a2 = b2
      · subst h2
        by_cases h1 : a1 = b1
        · subst h1
          by_cases h0 : a0 = b0
          · subst h0
            simp
          · simp [h0]
        · simp [h1]
      · simp [h2]
    · simp [h3]
  rw [E]
  congr 1
  rw [Bool.eq_iff_iff]
  simp only [Bool.and_eq_true, beq_iff_eq, decide_eq_true_eq]
  constructor
  · rintro ⟨⟨⟨e3, e2⟩, e1⟩, e0⟩
    rw [← ww_sw hx, ← ww_sw hu, e3, e2, e1, e0]
  · rintro rfl
    exact ⟨⟨⟨rfl, rfl⟩, rfl⟩, rfl⟩
end Go.Proofs.Ytnnojeggjnddpaa

/- Ten times a number of four words and one more digit. -/
namespace Go.Proofs.Ytnnojeggjnddpaa
open Go.RowKit
theorem ix4 (x0 x1 x2 x3 : Int) (k : Nat) (hk : k < [x0, x1, x2, x3].length) (w : World) : (Instr.index 70 (.agg #[.int .u64 x0, .int .u64 x1, .int .u64 x2, .int .u64 x3]) (.int .i64 k)).run Try.prog w = .ok (.int .u64 [x0, x1, x2, x3][k]) w := by
  match k, hk with
  | 0, _ => exact (show (Instr.index 70 (.agg #[.int .u64 x0, .int .u64 x1, .int .u64 x2, .int .u64 x3]) (.int .i64 ((0 : Nat) : Int))).run Try.prog w = .ok (.int .u64 x0) w by kernel_rfl)
  | 1, _ => exact (show (Instr.index 70 (.agg #[.int .u64 x0, .int .u64 x1, .int .u64 x2, .int .u64 x3]) (.int .i64 ((1 : Nat) : Int))).run Try.prog w = .ok (.int .u64 x1) w by kernel_rfl)
  | 2, _ => exact (show (Instr.index 70 (.agg #[.int .u64 x0, .int .u64 x1, .int .u64 x2, .int .u64 x3]) (.int .i64 ((2 : Nat) : Int))).run Try.prog w = .ok (.int .u64 x2) w by kernel_rfl)
  | 3, _ => exact (show (Instr.index 70 (.agg #[.int .u64 x0, .int .u64 x1, .int .u64 x2, .int .u64 x3]) (.int .i64 ((3 : Nat) : Int))).run Try.prog w = .ok (.int .u64 x3) w by kernel_rfl)
/-- The words ahead of a place, ten times; what is over. -/
structure TfI (xs zs : List Int) (d : Int) (k : Nat) (o : Int) : Prop where
  len : zs.length = 4
  wds : Words zs
  o0 : 0 ≤ o
  o1 : o < 10
  eq : val64 (zs.take k) + pw64 k * o = 10 * val64 (xs.take k) + d
theorem tf_start {xs : List Int} (hl : xs.length = 4) (hx : Words xs) {d : Int} (h0 : 0 ≤ d) (h1 : d < 10) : TfI xs xs d 0 d :=
  ⟨hl, hx, h0, h1, by simp [val64, pw64]⟩
theorem tf_step {xs zs : List Int} {d : Int} {k : Nat} {o : Int} (h : TfI xs zs d k o) (hk : k < xs.length) (hz : k < zs.length) (hx : Word xs[k]) (t : Int) (ht : t = xs[k] * 10 + o) : TfI xs (zs.set k (t % 18446744073709551616)) d (k + 1) (t / 18446744073709551616) := by
  obtain ⟨h1, h2, h3, h4, h5⟩ := h
  unfold Word at hx
  refine ⟨by simpa using h1, words_set h2 k ⟨by omega, by omega⟩, by omega, by omega, ?_⟩
  rw [val64_take (zs.set k (t % 18446744073709551616)) k (by simpa using hz), List.getElem_set_self, val64_take xs k hk, List.take_set_of_le (Nat.le_refl k), pw64]
  have e2 : t = t % 18446744073709551616 + 18446744073709551616 * (t / 18446744073709551616) := by omega
  generalize t / 18446744073709551616 = q at *
  generalize t % 18446744073709551616 = r at *
  generalize xs[k] = x at *
  generalize pw64 k = p at *
  generalize val64 (zs.take k) = a at *
  generalize val64 (xs.take k) = b at *
  clear h1 h2
  grind
theorem tf_arith {x o : Int} (h0 : 0 ≤ o) (h1 : o < 10) : Word (x * 10 % 18446744073709551616) ∧ Word o ∧ (x * 10 % 18446744073709551616 + o) % 18446744073709551616 = (x * 10 + o) % 18446744073709551616 ∧ x * 10 / 18446744073709551616 + (x * 10 % 18446744073709551616 + o) / 18446744073709551616 = (x * 10 + o) / 18446744073709551616 := by
  unfold Word at *
  omega
set_option maxRecDepth 100000 in
set_option maxHeartbeats 1000000 in
theorem tenfold_any (xs : List Int) (d : Int) (hl : xs.length = 4) (hx : Words xs) (h0 : 0 ≤ d) (h1 : d < 10) (hb : 10 * val64 xs + d < 115792089237316195423570985008687907853269984665640564039457584007913129639936) (w : World) : Calls Try.prog 51 #[agg xs, .int .u64 d] w (AggP 4 (10 * val64 xs + d) w) := by
  have HI : Hid (TfI xs xs d 0 d) := tf_start hl hx h0 h1
  have HX : Hid (Words xs) := hx
  have HL : Hid (xs.length = 4) := hl
  have HBD : Hid (10 * val64 xs + d < 115792089237316195423570985008687907853269984665640564039457584007913129639936) := hb
  obtain ⟨x0, x1, x2, x3, hxs⟩ := list4 hl
  have HA : agg xs = .agg #[.int .u64 x0, .int .u64 x1, .int .u64 x2, .int .u64 x3] := by rw [hxs]; rfl
  have AG := ix4 x0 x1 x2 x3
  rw [← hxs] at AG
  rw [HA]
  have HS : Mk w ((w.alloc (.cells #[.int .u64 x0, .int .u64 x1, .int .u64 x2, .int .u64 x3] 70)).alloc (.cells #[.int .u64 0, .int .u64 0, .int .u64 0, .int .u64 0] 70)) (w.heap.size + 1) w.heap.size (List.replicate 4 (.int .u64 0)) xs :=
    ⟨((Below.refl _ _).alloc (Nat.le_refl _) _).alloc (by simp) _, Blk.new _ [.int .u64 0, .int .u64 0, .int .u64 0, .int .u64 0] _ (by simp), by rw [hxs]; exact (Blk.new w [.int .u64 x0, .int .u64 x1, .int .u64 x2, .int .u64 x3] _ rfl).alloc _⟩
  clear hl hx HA hxs hb
  go_enter Try.func51, Try.ntmps51
  go_wp2
  generalize ((w.alloc (.cells #[.int .u64 x0, .int .u64 x1, .int .u64 x2, .int .u64 x3] 70)).alloc (.cells #[.int .u64 0, .int .u64 0, .int .u64 0, .int .u64 0] 70)) = W at *
  go_loopw [5, 13] (fun ov i wr => ∃ (k : Nat) (o : Int) (zs : List Int), k ≤ 4 ∧ i = .int .i64 k ∧ ov = .int .u64 o ∧ TfI xs zs d k o ∧ Mk w wr (w.heap.size + 1) w.heap.size (List.replicate 4 (.int .u64 0)) zs) (fun _ i _ => 4 - (intOf i).toNat)
  case atStart => exact ⟨0, d, _, by omega, rfl, rfl, HI.out, HS⟩
  case round =>
    clear HI HS h0 h1
    obtain ⟨k, o, zs, hk, rfl, rfl, hI, hM⟩ := hrel
    have hlen := hI.len
    by_cases hk4 : k < 4
    · have hkx : k < xs.length := by have := HL.out; omega
      have ag := AG k hkx
      have hz : k < zs.length := by omega
      obtain ⟨q1, q2⟩ := hM.cp k hz
      have hwx : Word xs[k] := words_at HX.out k hkx
      obtain ⟨t1, t2, t3, t4⟩ := tf_arith (x := xs[k]) hI.o0 hI.o1
      obtain ⟨hi, ehi⟩ : ∃ v, xs[k] * 10 / 18446744073709551616 = v := ⟨_, rfl⟩
      obtain ⟨lo, elo⟩ : ∃ v, xs[k] * 10 % 18446744073709551616 = v := ⟨_, rfl⟩
      have M1 := mul64d xs[k] 10 hi lo hwx ⟨by decide, by decide⟩ ehi elo
      rw [elo] at t1 t3 t4
      rw [ehi] at t4
      obtain ⟨n1, en1⟩ : ∃ v, (lo + o) % 18446744073709551616 = v := ⟨_, rfl⟩
      obtain ⟨c1, ec1⟩ : ∃ v, (lo + o) / 18446744073709551616 = v := ⟨_, rfl⟩
      have A1 := add64d lo o n1 c1 t1 t2 en1 ec1
      have R1 := tf_step hI hkx hz hwx _ rfl
      rw [← t3, ← t4, en1, ec1] at R1
      have R2 : Hid (TfI xs (zs.set k n1) d (k + 1) (hi + c1)) := R1
      have d4 : 0 ≤ hi + c1 := R1.o0
      have d5 : hi + c1 < 10 := R1.o1
      have M3 : Hid (Mk w (wr.setCell ⟨w.heap.size, k, none⟩ (.int .u64 n1)) (w.heap.size + 1) w.heap.size (List.replicate 4 (.int .u64 0)) (zs.set k n1)) := hM.set (by omega) (Nat.le_refl _) k hz n1
      have hkI : (k : Int) < 4 := by omega
      clear hI hM t1 t2 t3 t4 ehi elo en1 ec1 R1 AG hwx
      go_wp2_with fail
      refine (M1 _).mono ?_
      rintro e w1 ⟨rfl, rfl⟩
      clear M1
      go_wp2
      go_roundw
      case rel => exact ⟨k + 1, _, _, by omega, by go_num, rfl, R2.out, M3.out⟩
      case measure => simp [intOf]; omega
    · obtain rfl : k = 4 := by omega
      have HV := hI.eq
      have HW := hI.wds
      have ho0 := hI.o0
      obtain ⟨z0, z1, z2, z3, rfl⟩ := list4 hlen
      obtain ⟨c0, f0⟩ := hM.cp 0 (by simp)
      obtain ⟨c1, f1⟩ := hM.cp 1 (by simp)
      obtain ⟨c2, f2⟩ := hM.cp 2 (by simp)
      obtain ⟨c3, f3⟩ := hM.cp 3 (by simp)
      have d0 := hM.r.c 0 rfl; have e0 := hM.r.f 0 rfl
      have d1 := hM.r.c 1 rfl; have e1 := hM.r.f 1 rfl
      have d2 := hM.r.c 2 rfl; have e2 := hM.r.f 2 rfl
      have d3 := hM.r.c 3 rfl; have e3 := hM.r.f 3 rfl
      have HB := hM.below
      simp only [List.getElem_cons_zero, List.getElem_cons_succ] at c0 c1 c2 c3
      have HV2 : Hid (val64 [z0, z1, z2, z3] = 10 * val64 xs + d) := by
        show _ = _
        rw [List.take_of_length_le (by simp), List.take_of_length_le (by rw [HL.out]; omega), show pw64 4 = 115792089237316195423570985008687907853269984665640564039457584007913129639936 by decide] at HV
        have h8 := val64_nonneg HW
        have h9 := HBD.out
        omega
      clear hI hM hlen HV ho0
      go_wp2
      refine bodyPost_ret (v := .agg #[.int .u64 z0, .int .u64 z1, .int .u64 z2, .int .u64 z3]) (by simp [results, Try.results51, go_sem, d0, d1, d2, d3]) rfl ?_
      refine ⟨[z0, z1, z2, z3], rfl, rfl, HW, HV2.out, ?_⟩
      repeat' (refine Below.setCell ?_ (by simp) _)
      exact HB
end Go.Proofs.Ytnnojeggjnddpaa

/- Texts of nine bytes: matrices and masks, on both sides. -/
namespace Go.Proofs.Ytnnojeggjnddpaa
open Go.RowKit
/-- The byte of a text at a place. -/
def bt (s : ByteArray) (i : Nat) : Nat := (s.data.toList.getD i 0).toNat
theorem bt_at {s : ByteArray} {i : Nat} (h : i < s.size) : s[i].toNat = bt s i := by
  have h2 : i < s.data.size := h
  show (s.data[i]).toNat = _
  unfold bt
  rw [List.getD_eq_getElem?_getD, Array.getElem?_toList, Array.getElem?_eq_getElem h2]; rfl
theorem bt_lt (s : ByteArray) (i : Nat) : bt s i < 256 := UInt8.toNat_lt _
/-- That a text has just the bytes of a list. -/
def Bytes (ts : ByteArray) (t : List Nat) : Prop := ∀ n : Nat, n < 256 → (0 ≤ Lib.indexByte ts.data.toList (Int.toNat (n : Int)).toUInt8 ↔ n ∈ t)
set_option maxRecDepth 100000 in
set_option maxHeartbeats 1000000 in
theorem idxB_any (s : ByteArray) (c : Int) (w : World) : Calls Try.prog 126 #[.string s, .int .u8 c] w (VP (.int .i64 (Lib.indexByte s.data.toList c.toNat.toUInt8)) w) := by
  go_enter Try.func126, Try.ntmps126
  go_wp2
  rw [run_callFunc_extern Try.func134 (by kernel_rfl) (by kernel_rfl) (by kernel_rfl) (e := Extern.BytealgIndexByte.indexByte) (by kernel_rfl), Lib.run_indexByteString]
  simp only [Result.andThen]
  rw [Oper.upon_value]
  go_wp2
  go_ret
  exact ⟨rfl, Below.refl _ _⟩
end Go.Proofs.Ytnnojeggjnddpaa
