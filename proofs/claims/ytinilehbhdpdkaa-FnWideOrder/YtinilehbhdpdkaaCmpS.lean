/- The walk of the model's comparison of four words. -/
import Derived.Test.YtinilehbhdpdkaaImplB
namespace Go.Proofs.Ytinilehbhdpdkaa
open Go.RowKit
set_option maxRecDepth 100000 in
set_option maxHeartbeats 2000000 in
theorem specCmp_any (a3 a2 a1 a0 b3 b2 b1 b0 : Int) (h3 : Word a3) (h2 : Word a2) (h1 : Word a1) (h0 : Word a0) (k3 : Word b3) (k2 : Word b2) (k1 : Word b1) (k0 : Word b0) (w : World) :
    Calls Try.prog 15 #[.agg #[.int .u64 a3, .int .u64 a2, .int .u64 a1, .int .u64 a0], .agg #[.int .u64 b3, .int .u64 b2, .int .u64 b1, .int .u64 b0]] w (IntP (cmpI (sw a3 a2 a1 a0) (sw b3 b2 b1 b0)) w) := by
  have T0 := twoW_start w a3 a2 a1 a0 b3 b2 b1 b0 26
  have tok1 : True := trivial
  go_enter Try.func15, Try.ntmps15
  go_upto_region 1 with fail
  generalize (w.alloc (Obj.cells #[Value.int IntKind.u64 a3, Value.int IntKind.u64 a2, Value.int IntKind.u64 a1, Value.int IntKind.u64 a0] 26)).alloc (Obj.cells #[Value.int IntKind.u64 b3, Value.int IntKind.u64 b2, Value.int IntKind.u64 b1, Value.int IntKind.u64 b0] 26) = W at *
  go_region_held3 (fun w' => w'.cell? ⟨w.heap.size, 0, none⟩ = some (.int .u64 a3) ∧ w'.cell? ⟨w.heap.size, 1, none⟩ = some (.int .u64 a2) ∧ w'.cell? ⟨w.heap.size, 2, none⟩ = some (.int .u64 a1) ∧ w'.cell? ⟨w.heap.size, 3, none⟩ = some (.int .u64 a0) ∧ w'.cell? ⟨w.heap.size + 1, 0, none⟩ = some (.int .u64 b3) ∧ w'.cell? ⟨w.heap.size + 1, 1, none⟩ = some (.int .u64 b2) ∧ w'.cell? ⟨w.heap.size + 1, 2, none⟩ = some (.int .u64 b1) ∧ w'.cell? ⟨w.heap.size + 1, 3, none⟩ = some (.int .u64 b0)) (first | (with_reducible exact cells8x T0) | (with_reducible exact cells8x T0.drew))
    (first
      | (go_at_call 25; have _t := tok1; refine (from_any a3 a2 a1 a0 h3 h2 h1 h0 _).mono ?_; rintro e w1 ⟨s1, ao1, n1, c1, ds1, rfl, N1, hB⟩; (first | (have T1 : TwoW w w1 a3 a2 a1 a0 b3 b2 b1 b0 := (by with_reducible exact T0.step hB)) | (have T1 : TwoW w w1 a3 a2 a1 a0 b3 b2 b1 b0 := (by with_reducible exact T0.drew.step hB))); clear T0; have T0 := T1; clear T1; clear tok1 _t hB)
      | (go_at_call 25; refine (from_any b3 b2 b1 b0 k3 k2 k1 k0 _).mono ?_; rintro e w2 ⟨s2, ao2, n2, c2, ds2, rfl, N2, hB⟩; (first | (have T1 : TwoW w w2 a3 a2 a1 a0 b3 b2 b1 b0 := (by with_reducible exact T0.step hB)) | (have T1 : TwoW w w2 a3 a2 a1 a0 b3 b2 b1 b0 := (by with_reducible exact T0.drew.step hB))); clear T0; have T0 := T1; clear T1; replace N1 := N1.below hB; clear hB)
      | (go_at_call 30; refine (cmp_any s1 s2 ao1 ao2 n1 n2 c1 c2 8 ds1 ds2 _ _ _ N1 N2 (by omega)).mono ?_; rintro e w3 ⟨rfl, hB⟩; (first | (have T1 : TwoW w w3 a3 a2 a1 a0 b3 b2 b1 b0 := (by with_reducible exact T0.step hB)) | (have T1 : TwoW w w3 a3 a2 a1 a0 b3 b2 b1 b0 := (by with_reducible exact T0.drew.step hB))); clear T0; have T0 := T1; clear T1; clear hB N1 N2))
  all_goals go_wp2
  all_goals go_ret
  all_goals first | exact ⟨rfl, T0.below⟩ | exact ⟨rfl, T0.below.drew⟩
end Go.Proofs.Ytinilehbhdpdkaa
