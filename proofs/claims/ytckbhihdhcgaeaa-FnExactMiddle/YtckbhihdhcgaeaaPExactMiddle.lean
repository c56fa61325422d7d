/- For every two points the law answers true: the program's middle of them is the model's; no condition. -/
import Derived.Test.YtckbhihdhcgaeaaLawMiddle
import Derived.Test.YtckbhihdhcgaeaaBas12
namespace Go.Proofs.Ytckbhihdhcgaeaa
open Go.ChangeShapes Go.WideShapes Go.ChangeAt Go.RowKit Go.Joins
set_option maxRecDepth 100000 in
theorem fnExactMiddle_lifted (os : Os) (started : os.Started) (H : Type) (enc : TypeId × Value → H) :
    ReturnsInHanded {} Try.checked os 9 .any (Rows.fnExactMiddleSpec.pre6 enc Try.prog Try.f9 Rows.fnExactMiddleRow.domain false) (Rows.fnExactMiddleSpec.post enc Try.prog Try.f9 false true false false) := by
  refine returnsInHanded_of_change (C := Try.checked) Try.own started (by kernel_rfl) Try.func9
    (ChangeSpec.witness6 (enc := enc) (C := Try.checked) false ⟨#[], #[.agg #[.int .u64 0, .int .u64 0, .int .u64 0, .int .u64 0, .int .u64 0, .int .u64 0, .int .u64 0, .int .u64 0, .int .u64 0, .int .u64 0, .int .u64 0, .int .u64 0], .agg #[.int .u64 0, .int .u64 0, .int .u64 0, .int .u64 0, .int .u64 0, .int .u64 0, .int .u64 0, .int .u64 0, .int .u64 0, .int .u64 0, .int .u64 0, .int .u64 0]], []⟩ 8 (by kernel_rfl) (by kernel_rfl) (by kernel_rfl) (by kernel_rfl)) ?_
  intro W base args ds gs before hval0 hW hcnd _
  have hval : ∀ (j : Nat) t v, Try.f9.params[j]? = some t → args[j]? = some v → Value.okWide Try.prog W .any base t v := hval0
  have hW' := hW
  obtain ⟨p, q, hA0, hV, rfl, hfz, hnd⟩ := hW
  have hA : DataW.TrodAll enc Try.prog W 0 (fun _ => true) true Try.f9.params.toList args.toList ds p := hA0
  rw [Try.params9] at hA hval
  obtain ⟨v0, v1, d0, d1, q0, q1, rfl, rfl, rfl, h0, h1⟩ := trodAll_two hA
  obtain ⟨rfl, rfl⟩ := trodVars_none hV
  obtain ⟨x0, y0, z0, rfl, rfl, rfl, tx0, ty0, tz0⟩ := open_point (hval 0 26 v0 rfl rfl) h0
  obtain ⟨x1, y1, z1, rfl, rfl, rfl, tx1, ty1, tz1⟩ := open_point (hval 1 26 v1 rfl rfl) h1
  clear hA0 hval0
  refine (lawMiddle_any x0 y0 z0 x1 y1 z1  tx0 ty0 tz0 tx1 ty1 tz1 W).mono fun e W' ⟨he, hB⟩ => ?_
  subst he
  exact ⟨_, rfl, _, _, _, [], [], [], hW', trodAll_mk1 (shut_bool Try.underlying4 _), trodAll_mk2 (shut_point x0 y0 z0) (shut_point x1 y1 z1), rfl, hB.frame _, fun h => by cases h⟩
theorem fnExactMiddle_j1 : (Rows.fnExactMiddleRow.inPlace == Try.pinned.checked.prog.inPlace 9) = true := by kernel_rfl
theorem fnExactMiddle_j2 : (Rows.fnExactMiddleRow.unfollowed == Try.pinned.checked.prog.unfollowed 9) = true := by kernel_rfl
theorem fnExactMiddle_j3 : (Rows.fnExactMiddleRow.recurses == Try.pinned.checked.prog.recurses 9) = true := by kernel_rfl
theorem fnExactMiddle_j4 : (Rows.fnExactMiddleRow.named == Try.pinned.checked.prog.varsNamed 9) = true := by kernel_rfl
theorem fnExactMiddle_closed : joinedFacts Try.pinned.checked.prog 9 Try.f9 Rows.fnExactMiddleSpec Rows.fnExactMiddleRow = true := by
  unfold joinedFacts
  rw [fnExactMiddle_j1, fnExactMiddle_j2, fnExactMiddle_j3, fnExactMiddle_j4, jn_laid, jn_maps, jn_enter, jn_heard]
  kernel_rfl
theorem fnExactMiddle_holds : Rows.FnExactMiddleSaid :=
  OpenClaim.holds_of_wide 9 Try.f9 rfl rfl rfl rfl rfl rfl rfl ⟨rfl, rfl, rfl, rfl, rfl⟩ rfl rfl rfl rfl rfl (by kernel_rfl) Try.func9 fnExactMiddle_closed
    (of_decide_eq_true (by kernel_rfl)) (by unfold Func.isWrapper; first | (rw [if_pos (by decide +kernel)]; kernel_rfl) | (rw [if_neg (by decide +kernel)]; exact ⟨rfl, rfl⟩))
    (fun os started H enc _ => fnExactMiddle_lifted os started H enc)
#print axioms fnExactMiddle_holds
end Go.Proofs.Ytckbhihdhcgaeaa
