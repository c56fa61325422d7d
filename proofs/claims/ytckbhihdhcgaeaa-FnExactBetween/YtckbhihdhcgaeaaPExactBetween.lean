/- For every three points the law answers true: the program's word on whether the third lies between the two is the model's; no condition. -/
import Derived.Test.YtckbhihdhcgaeaaLawBetween
import Derived.Test.YtckbhihdhcgaeaaBase11
import Derived.Test.YtckbhihdhcgaeaaBase12
namespace Go.Proofs.Ytckbhihdhcgaeaa
open Go.ChangeShapes Go.WideShapes Go.ChangeAt Go.RowKit Go.Joins
set_option maxRecDepth 100000 in
theorem fnExactBetween_lifted (os : Os) (started : os.Started) (H : Type) (enc : TypeId × Value → H) :
    ReturnsInHanded {} Try.checked os 7 .any (Rows.fnExactBetweenSpec.pre6 enc Try.prog Try.f7 Rows.fnExactBetweenRow.domain false) (Rows.fnExactBetweenSpec.post enc Try.prog Try.f7 false true false false) := by
  refine returnsInHanded_of_change (C := Try.checked) Try.own started (by kernel_rfl) Try.func7
    (ChangeSpec.witness6 (enc := enc) (C := Try.checked) false ⟨#[], #[.agg #[.int .u64 0, .int .u64 0, .int .u64 0, .int .u64 0, .int .u64 0, .int .u64 0, .int .u64 0, .int .u64 0, .int .u64 0, .int .u64 0, .int .u64 0, .int .u64 0], .agg #[.int .u64 0, .int .u64 0, .int .u64 0, .int .u64 0, .int .u64 0, .int .u64 0, .int .u64 0, .int .u64 0, .int .u64 0, .int .u64 0, .int .u64 0, .int .u64 0], .agg #[.int .u64 0, .int .u64 0, .int .u64 0, .int .u64 0, .int .u64 0, .int .u64 0, .int .u64 0, .int .u64 0, .int .u64 0, .int .u64 0, .int .u64 0, .int .u64 0]], []⟩ 8 (by kernel_rfl) (by kernel_rfl) (by kernel_rfl) (by kernel_rfl)) ?_
  intro W base args ds gs before hval0 hW hcnd _
  have hval : ∀ (j : Nat) t v, Try.f7.params[j]? = some t → args[j]? = some v → Value.okWide Try.prog W .any base t v := hval0
  have hW' := hW
  obtain ⟨p, q, hA0, hV, rfl, hfz, hnd⟩ := hW
  have hA : DataW.TrodAll enc Try.prog W 0 (fun _ => true) true Try.f7.params.toList args.toList ds p := hA0
  rw [Try.params7] at hA hval
  obtain ⟨v0, v1, v2, d0, d1, d2, q0, q1, q2, rfl, rfl, rfl, h0, h1, h2⟩ := trodAll_three hA
  obtain ⟨rfl, rfl⟩ := trodVars_none hV
  obtain ⟨x0, y0, z0, rfl, rfl, rfl, tx0, ty0, tz0⟩ := open_point (hval 0 26 v0 rfl rfl) h0
  obtain ⟨x1, y1, z1, rfl, rfl, rfl, tx1, ty1, tz1⟩ := open_point (hval 1 26 v1 rfl rfl) h1
  obtain ⟨x2, y2, z2, rfl, rfl, rfl, tx2, ty2, tz2⟩ := open_point (hval 2 26 v2 rfl rfl) h2
  clear hA0 hval0
  refine (lawBetween_any x0 y0 z0 x1 y1 z1 x2 y2 z2 tx0 ty0 tz0 tx1 ty1 tz1 tx2 ty2 tz2 W).mono fun e W' ⟨he, hB⟩ => ?_
  subst he
  exact ⟨_, rfl, _, _, _, [], [], [], hW', trodAll_mk1 (shut_bool Try.underlying4 _), trodAll_mk3 (shut_point x0 y0 z0) (shut_point x1 y1 z1) (shut_point x2 y2 z2), rfl, hB.frame _, fun h => by cases h⟩
theorem fnExactBetween_j1 : (Rows.fnExactBetweenRow.inPlace == Try.pinned.checked.prog.inPlace 7) = true := by kernel_rfl
theorem fnExactBetween_j2 : (Rows.fnExactBetweenRow.unfollowed == Try.pinned.checked.prog.unfollowed 7) = true := by kernel_rfl
theorem fnExactBetween_j3 : (Rows.fnExactBetweenRow.recurses == Try.pinned.checked.prog.recurses 7) = true := by kernel_rfl
theorem fnExactBetween_j4 : (Rows.fnExactBetweenRow.named == Try.pinned.checked.prog.varsNamed 7) = true := by kernel_rfl
theorem fnExactBetween_closed : joinedFacts Try.pinned.checked.prog 7 Try.f7 Rows.fnExactBetweenSpec Rows.fnExactBetweenRow = true := by
  unfold joinedFacts
  rw [fnExactBetween_j1, fnExactBetween_j2, fnExactBetween_j3, fnExactBetween_j4, jn_laid, jn_maps, jn_enter, jn_heard]
  kernel_rfl
theorem fnExactBetween_holds : Rows.FnExactBetweenSaid :=
  OpenClaim.holds_of_wide 7 Try.f7 rfl rfl rfl rfl rfl rfl rfl ⟨rfl, rfl, rfl, rfl, rfl⟩ rfl rfl rfl rfl rfl (by kernel_rfl) Try.func7 fnExactBetween_closed
    (of_decide_eq_true (by kernel_rfl)) (by unfold Func.isWrapper; first | (rw [if_pos (by decide +kernel)]; kernel_rfl) | (rw [if_neg (by decide +kernel)]; exact ⟨rfl, rfl⟩))
    (fun os started H enc _ => fnExactBetween_lifted os started H enc)
#print axioms fnExactBetween_holds
end Go.Proofs.Ytckbhihdhcgaeaa
