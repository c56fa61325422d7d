/- The walks of a number of four words made from an integer, by the model and by the program, and of the law over both. -/
import Derived.Test.YtinilehbhdpdkaaToW
import Derived.Test.YtinilehbhdpdkaaToWN
import Derived.Test.YtinilehbhdpdkaaSign
namespace Go.Proofs.Ytinilehbhdpdkaa
open Go.RowKit
theorem toW_any (s : Bool) (ao : Option Addr) (n cap : Nat) (ds : List Int) (z : Int) (k : Nat) (w : World) (h : IsNum w s ao n cap ds z k) (hk : k ≤ 1000000) :
    Calls Try.prog 23 #[.agg #[.bool s, .slice ao n cap]] w (TellP z w) := by
  by_cases hz : z < 0
  · have hs : s = true := by rw [h.neg]; simpa using hz
    subst hs
    exact toW_neg ao n cap ds z k w hz h hk
  · have hs : s = false := by rw [h.neg]; simpa using hz
    subst hs
    exact toW_pos ao n cap ds z k w (by omega) h hk
/-- Four words that stand for z. -/
def SwP (z : Int) (w : World) (e : Ending) (w' : World) : Prop :=
  ∃ a3 a2 a1 a0, e = .returned (.agg #[.int .u64 a3, .int .u64 a2, .int .u64 a1, .int .u64 a0]) ∧ Word a3 ∧ Word a2 ∧ Word a1 ∧ Word a0 ∧ sw a3 a2 a1 a0 = z ∧ Below w.heap.size w w'
set_option maxRecDepth 100000 in
set_option maxHeartbeats 1000000 in
theorem specOf_any (n : Int) (w : World) (h0 : -9223372036854775808 ≤ n) (h1 : n ≤ 9223372036854775807) :
    Calls Try.prog 32 #[.int .i64 n] w (SwP n w) := by
  have ht : told n = true := by unfold told; rw [decide_eq_true_iff]; omega
  go_enter Try.func32, Try.ntmps32
  go_wp2_with fail
  refine (int_any n _ h0 h1).mono ?_
  rintro e w1 ⟨s, ao, m, cap, ds, rfl, hN, hB⟩
  go_wp2_with fail
  refine (toW_any s ao m cap ds n 2 _ hN (by omega)).mono ?_
  rintro e w2 ⟨hB2, hT⟩
  rcases hT with ⟨_, a3, a2, a1, a0, rfl, g3, g2, g1, g0, hsw⟩ | ⟨hf, _⟩
  · have hB3 := hB.trans (hB2.mono hB.size)
    obtain ⟨c0, c1, c2, c3, f0, f1, f2, f3, hz, hB4⟩ := res4' (R := w.heap.size) rfl (hB3.mono (by simp))
    have HB : Hid (Below w.heap.size w w2) := hB4
    have HS : Hid (sw a3 a2 a1 a0 = n) := hsw
    clear hB hB2 hB3 hB4 hN hsw
    go_wp2
    refine bodyPost_ret (v := .agg #[.int .u64 a3, .int .u64 a2, .int .u64 a1, .int .u64 a0]) (by simp [results, Try.results32, go_sem, World.cell?_alloc_past, c0, c1, c2, c3, hz]) rfl ?_
    exact ⟨a3, a2, a1, a0, rfl, g3, g2, g1, g0, HS.out, (tell_below HB.out (Nat.le_refl _)).alloc (by simp; omega) _⟩
  · rw [ht] at hf; cases hf
set_option maxRecDepth 100000 in
set_option maxHeartbeats 1000000 in
theorem implOf_any (n : Int) (w : World) (h0 : -9223372036854775808 ≤ n) (h1 : n ≤ 9223372036854775807) :
    Calls Try.prog 11 #[.int .i64 n] w (SwP n w) := by
  by_cases hn : n < 0
  · have hd1 : IntKind.u64.wrap (n / 9223372036854775808) = 18446744073709551615 := by rw [IntKind.wrap_u64]; omega
    have hd2 : IntKind.u64.wrap n = n + 18446744073709551616 := by rw [IntKind.wrap_u64]; omega
    go_enter Try.func11, Try.ntmps11
    go_wp2
    refine bodyPost_ret (v := .agg #[.int .u64 18446744073709551615, .int .u64 18446744073709551615, .int .u64 18446744073709551615, .int .u64 (n + 18446744073709551616)]) (by simp [results, Try.results11, go_sem]) rfl ?_
    refine ⟨_, _, _, _, rfl, ⟨by decide, by decide⟩, ⟨by decide, by decide⟩, ⟨by decide, by decide⟩, ⟨by omega, by omega⟩, ?_, (Below.refl _ _).alloc (Nat.le_refl _) _⟩
    unfold sw uw; rw [if_neg (by decide)]; omega
  · have hd1 : n / 9223372036854775808 = 0 := by omega
    go_enter Try.func11, Try.ntmps11
    go_wp2
    refine bodyPost_ret (v := .agg #[.int .u64 0, .int .u64 0, .int .u64 0, .int .u64 n]) (by simp [results, Try.results11, go_sem]) rfl ?_
    refine ⟨_, _, _, _, rfl, ⟨by decide, by decide⟩, ⟨by decide, by decide⟩, ⟨by decide, by decide⟩, ⟨by omega, by omega⟩, ?_, (Below.refl _ _).alloc (Nat.le_refl _) _⟩
    unfold sw uw; rw [if_pos (by decide)]; omega
end Go.Proofs.Ytinilehbhdpdkaa
