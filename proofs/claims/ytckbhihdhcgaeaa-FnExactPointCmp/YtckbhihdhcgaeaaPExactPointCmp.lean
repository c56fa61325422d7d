/- For every two points the law answers true: the program's order of them is the model's; no condition. -/
import Derived.Test.YtckbhihdhcgaeaaLawPointCmp
import Derived.Test.YtckbhihdhcgaeaaBase11
import Derived.Test.YtckbhihdhcgaeaaBase12
namespace Go.Proofs.Ytckbhihdhcgaeaa
open Go.ChangeShapes Go.WideShapes Go.ChangeAt Go.RowKit Go.Joins
set_option maxRecDepth 100000 in
theorem fnExactPointCmp_lifted (os : Os) (started : os.Started) (H : Type) (enc : TypeId × Value → H) :
    ReturnsInHanded {} Try.checked os 5 .any (Rows.fnExactPointCmpSpec.pre6 enc Try.prog Try.f5 Rows.fnExactPointCmpRow.domain false) (Rows.fnExactPointCmpSpec.post enc Try.prog Try.f5 false true false false) := by
  refine returnsInHanded_of_change (C := Try.checked) Try.own started (by kernel_rfl) Try.func5
    (ChangeSpec.witness6 (enc := enc) (C := Try.checked) false ⟨#[], #[.agg #[.int .u64 0, .int .u64 0, .int .u64 0, .int .u64 0, .int .u64 0, .int .u64 0, .int .u64 0, .int .u64 0, .int .u64 0, .int .u64 0, .int .u64 0, .int .u64 0], .agg #[.int .u64 0, .int .u64 0, .int .u64 0, .int .u64 0, .int .u64 0, .int .u64 0, .int .u64 0, .int .u64 0, .int .u64 0, .int .u64 0, .int .u64 0, .int .u64 0]], []⟩ 8 (by kernel_rfl) (by kernel_rfl) (by kernel_rfl) (by kernel_rfl)) ?_
  intro W base args ds gs before hval0 hW hcnd _
  have hval : ∀ (j : Nat) t v, Try.f5.params[j]? = some t → args[j]? = some v → Value.okWide Try.prog W .any base t v := hval0
  have hW' := hW
  obtain ⟨p, q, hA0, hV, rfl, hfz, hnd⟩ := hW
  have hA : DataW.TrodAll enc Try.prog W 0 (fun _ => true) true Try.f5.params.toList args.toList ds p := hA0
  rw [Try.params5] at hA hval
  obtain ⟨v0, v1, d0, d1, q0, q1, rfl, rfl, rfl, h0, h1⟩ := trodAll_two hA
  obtain ⟨rfl, rfl⟩ := trodVars_none hV
  obtain ⟨x0, y0, z0, rfl, rfl, rfl, tx0, ty0, tz0⟩ := open_point (hval 0 26 v0 rfl rfl) h0
  obtain ⟨x1, y1, z1, rfl, rfl, rfl, tx1, ty1, tz1⟩ := open_point (hval 1 26 v1 rfl rfl) h1
  clear hA0 hval0
  refine (lawPointCmp_any x0 y0 z0 x1 y1 z1 tx0 ty0 tz0 tx1 ty1 tz1 W).mono fun e W' ⟨he, hB⟩ => ?_
  subst he
  exact ⟨_, rfl, _, _, _, [], [], [], hW', trodAll_mk1 (shut_bool Try.underlying4 _), trodAll_mk2 (shut_point x0 y0 z0) (shut_point x1 y1 z1), rfl, hB.frame _, fun h => by cases h⟩
theorem fnExactPointCmp_j1 : (Rows.fnExactPointCmpRow.inPlace == Try.pinned.checked.prog.inPlace 5) = true := by kernel_rfl
theorem fnExactPointCmp_j2 : (Rows.fnExactPointCmpRow.unfollowed == Try.pinned.checked.prog.unfollowed 5) = true := by kernel_rfl
theorem fnExactPointCmp_j3 : (Rows.fnExactPointCmpRow.recurses == Try.pinned.checked.prog.recurses 5) = true := by kernel_rfl
theorem fnExactPointCmp_j4 : (Rows.fnExactPointCmpRow.named == Try.pinned.checked.prog.varsNamed 5) = true := by kernel_rfl
theorem fnExactPointCmp_closed : joinedFacts Try.pinned.checked.prog 5 Try.f5 Rows.fnExactPointCmpSpec Rows.fnExactPointCmpRow = true := by
  unfold joinedFacts
  rw [fnExactPointCmp_j1, fnExactPointCmp_j2, fnExactPointCmp_j3, fnExactPointCmp_j4, jn_laid, jn_maps, jn_enter, jn_heard]
  kernel_rfl
theorem fnExactPointCmp_holds : Rows.FnExactPointCmpSaid :=
  OpenClaim.holds_of_wide 5 Try.f5 rfl rfl rfl rfl rfl rfl rfl ⟨rfl, rfl, rfl, rfl, rfl⟩ rfl rfl rfl rfl rfl (by kernel_rfl) Try.func5 fnExactPointCmp_closed
    (of_decide_eq_true (by kernel_rfl)) (by unfold Func.isWrapper; first | (rw [if_pos (by decide +kernel)]; kernel_rfl) | (rw [if_neg (by decide +kernel)]; exact ⟨rfl, rfl⟩))
    (fun os started H enc _ => fnExactPointCmp_lifted os started H enc)
#print axioms fnExactPointCmp_holds
end Go.Proofs.Ytckbhihdhcgaeaa
