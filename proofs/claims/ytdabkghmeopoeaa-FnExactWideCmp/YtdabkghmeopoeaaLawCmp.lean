/- The walk of the law over the comparison of four words. -/
import Derived.Test.YtdabkghmeopoeaaCmpS
import Derived.Test.YtdabkghmeopoeaaCmpI
namespace Go.Proofs.Ytdabkghmeopoeaa
open Go.RowKit
set_option maxRecDepth 100000 in
set_option maxHeartbeats 2000000 in
theorem lawCmp_any (a3 a2 a1 a0 b3 b2 b1 b0 : Int) (h3 : Word a3) (h2 : Word a2) (h1 : Word a1) (h0 : Word a0) (k3 : Word b3) (k2 : Word b2) (k1 : Word b1) (k0 : Word b0) (w : World) :
    Calls Try.prog 5 #[.agg #[.int .u64 a3, .int .u64 a2, .int .u64 a1, .int .u64 a0], .agg #[.int .u64 b3, .int .u64 b2, .int .u64 b1, .int .u64 b0]] w (BoolP true w) := by
  have T0 := twoW_start w a3 a2 a1 a0 b3 b2 b1 b0 28
  have tok1 : True := trivial
  have tok2 : True := trivial
  obtain ⟨z, hz⟩ : ∃ z, z = cmpI (sw a3 a2 a1 a0) (sw b3 b2 b1 b0) := ⟨_, rfl⟩
  have HZ : Hid (z = cmpI (sw a3 a2 a1 a0) (sw b3 b2 b1 b0)) := hz
  clear hz
  have hne : (z != z) = false := by simp
  go_enter Try.func5, Try.ntmps5
  go_upto_region 1 with fail
  generalize (w.alloc (Obj.cells #[Value.int IntKind.u64 a3, Value.int IntKind.u64 a2, Value.int IntKind.u64 a1, Value.int IntKind.u64 a0] 28)).alloc (Obj.cells #[Value.int IntKind.u64 b3, Value.int IntKind.u64 b2, Value.int IntKind.u64 b1, Value.int IntKind.u64 b0] 28) = W at *
  go_region_held3 (fun w' => w'.cell? ⟨w.heap.size, 0, none⟩ = some (.int .u64 a3) ∧ w'.cell? ⟨w.heap.size, 1, none⟩ = some (.int .u64 a2) ∧ w'.cell? ⟨w.heap.size, 2, none⟩ = some (.int .u64 a1) ∧ w'.cell? ⟨w.heap.size, 3, none⟩ = some (.int .u64 a0) ∧ w'.cell? ⟨w.heap.size + 1, 0, none⟩ = some (.int .u64 b3) ∧ w'.cell? ⟨w.heap.size + 1, 1, none⟩ = some (.int .u64 b2) ∧ w'.cell? ⟨w.heap.size + 1, 2, none⟩ = some (.int .u64 b1) ∧ w'.cell? ⟨w.heap.size + 1, 3, none⟩ = some (.int .u64 b0)) (first | (with_reducible exact cells8x T0) | (with_reducible exact cells8x T0.drew))
    (first
      | (go_at_call 20; have _t := tok1; refine (toWide_any a3 a2 a1 a0 _).mono ?_; rintro e w1 ⟨rfl, hB⟩; (first | (have T1 : TwoW w w1 a3 a2 a1 a0 b3 b2 b1 b0 := (by with_reducible exact T0.step hB)) | (have T1 : TwoW w w1 a3 a2 a1 a0 b3 b2 b1 b0 := (by with_reducible exact T0.drew.step hB))); clear T0; have T0 := T1; clear T1; clear tok1 _t hB)
      | (go_at_call 20; refine (toWide_any b3 b2 b1 b0 _).mono ?_; rintro e w2 ⟨rfl, hB⟩; (first | (have T1 : TwoW w w2 a3 a2 a1 a0 b3 b2 b1 b0 := (by with_reducible exact T0.step hB)) | (have T1 : TwoW w w2 a3 a2 a1 a0 b3 b2 b1 b0 := (by with_reducible exact T0.drew.step hB))); clear T0; have T0 := T1; clear T1; clear hB)
      | (go_at_call 22; refine (specCmp_any a3 a2 a1 a0 b3 b2 b1 b0 h3 h2 h1 h0 k3 k2 k1 k0 _).mono ?_; rintro e w3 ⟨rfl, hB⟩; rw [← HZ.out]; (first | (have T1 : TwoW w w3 a3 a2 a1 a0 b3 b2 b1 b0 := (by with_reducible exact T0.step hB)) | (have T1 : TwoW w w3 a3 a2 a1 a0 b3 b2 b1 b0 := (by with_reducible exact T0.drew.step hB))); clear T0; have T0 := T1; clear T1; clear hB))
  go_upto_region 2 with fail
  go_region_held3 (fun w' => w'.cell? ⟨w.heap.size, 0, none⟩ = some (.int .u64 a3) ∧ w'.cell? ⟨w.heap.size, 1, none⟩ = some (.int .u64 a2) ∧ w'.cell? ⟨w.heap.size, 2, none⟩ = some (.int .u64 a1) ∧ w'.cell? ⟨w.heap.size, 3, none⟩ = some (.int .u64 a0) ∧ w'.cell? ⟨w.heap.size + 1, 0, none⟩ = some (.int .u64 b3) ∧ w'.cell? ⟨w.heap.size + 1, 1, none⟩ = some (.int .u64 b2) ∧ w'.cell? ⟨w.heap.size + 1, 2, none⟩ = some (.int .u64 b1) ∧ w'.cell? ⟨w.heap.size + 1, 3, none⟩ = some (.int .u64 b0)) (first | (with_reducible exact cells8x T0) | (with_reducible exact cells8x T0.drew))
    (first
      | (go_at_call 20; have _t := tok2; refine (toWide_any a3 a2 a1 a0 _).mono ?_; rintro e w4 ⟨rfl, hB⟩; (first | (have T1 : TwoW w w4 a3 a2 a1 a0 b3 b2 b1 b0 := (by with_reducible exact T0.step hB)) | (have T1 : TwoW w w4 a3 a2 a1 a0 b3 b2 b1 b0 := (by with_reducible exact T0.drew.step hB))); clear T0; have T0 := T1; clear T1; clear tok2 _t hB)
      | (go_at_call 20; refine (toWide_any b3 b2 b1 b0 _).mono ?_; rintro e w5 ⟨rfl, hB⟩; (first | (have T1 : TwoW w w5 a3 a2 a1 a0 b3 b2 b1 b0 := (by with_reducible exact T0.step hB)) | (have T1 : TwoW w w5 a3 a2 a1 a0 b3 b2 b1 b0 := (by with_reducible exact T0.drew.step hB))); clear T0; have T0 := T1; clear T1; clear hB)
      | (go_at_call 23; refine (implCmp_any a3 a2 a1 a0 b3 b2 b1 b0 h3 h2 h1 h0 k3 k2 k1 k0 _).mono ?_; rintro e w6 ⟨rfl, hB⟩; rw [← HZ.out]; (first | (have T1 : TwoW w w6 a3 a2 a1 a0 b3 b2 b1 b0 := (by with_reducible exact T0.step hB)) | (have T1 : TwoW w w6 a3 a2 a1 a0 b3 b2 b1 b0 := (by with_reducible exact T0.drew.step hB))); clear T0; have T0 := T1; clear T1; clear hB))
  all_goals go_wp2
  all_goals go_ret
  all_goals first | exact ⟨rfl, T0.below⟩ | exact ⟨rfl, T0.below.drew⟩
end Go.Proofs.Ytdabkghmeopoeaa
