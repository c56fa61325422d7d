/- For every three numbers the law answers true: the program's point of them in lowest terms is the model's; no condition. -/
import Derived.Test.YtckbhihdhcgaeaaLawPointMake
import Derived.Test.YtckbhihdhcgaeaaBas12
namespace Go.Proofs.Ytckbhihdhcgaeaa
open Go.ChangeShapes Go.WideShapes Go.ChangeAt Go.RowKit Go.Joins
set_option maxRecDepth 100000 in
theorem fnExactPointMake_lifted (os : Os) (started : os.Started) (H : Type) (enc : TypeId × Value → H) :
    ReturnsInHanded {} Try.checked os 4 .any (Rows.fnExactPointMakeSpec.pre6 enc Try.prog Try.f4 Rows.fnExactPointMakeRow.domain false) (Rows.fnExactPointMakeSpec.post enc Try.prog Try.f4 false true false false) := by
  refine returnsInHanded_of_change (C := Try.checked) Try.own started (by kernel_rfl) Try.func4
    (ChangeSpec.witness6 (enc := enc) (C := Try.checked) false ⟨#[], #[.agg #[.int .u64 0, .int .u64 0, .int .u64 0, .int .u64 0], .agg #[.int .u64 0, .int .u64 0, .int .u64 0, .int .u64 0], .agg #[.int .u64 0, .int .u64 0, .int .u64 0, .int .u64 0]], []⟩ 8 (by kernel_rfl) (by kernel_rfl) (by kernel_rfl) (by kernel_rfl)) ?_
  intro W base args ds gs before hval0 hW hcnd _
  have hval : ∀ (j : Nat) t v, Try.f4.params[j]? = some t → args[j]? = some v → Value.okWide Try.prog W .any base t v := hval0
  have hW' := hW
  obtain ⟨p, q, hA0, hV, rfl, hfz, hnd⟩ := hW
  have hA : DataW.TrodAll enc Try.prog W 0 (fun _ => true) true Try.f4.params.toList args.toList ds p := hA0
  rw [Try.params4] at hA hval
  obtain ⟨v0, v1, v2, d0, d1, d2, q0, q1, q2, rfl, rfl, rfl, h0, h1, h2⟩ := trodAll_three hA
  obtain ⟨rfl, rfl⟩ := trodVars_none hV
  obtain ⟨x0, rfl, rfl, rfl, tx0⟩ := open_wideW (hval 0 24 v0 rfl rfl) h0
  obtain ⟨x1, rfl, rfl, rfl, tx1⟩ := open_wideW (hval 1 24 v1 rfl rfl) h1
  obtain ⟨x2, rfl, rfl, rfl, tx2⟩ := open_wideW (hval 2 24 v2 rfl rfl) h2
  clear hA0 hval0
  refine (lawPointMake_any x0 x1 x2  tx0 tx1 tx2 W).mono fun e W' ⟨he, hB⟩ => ?_
  subst he
  exact ⟨_, rfl, _, _, _, [], [], [], hW', trodAll_mk1 (shut_bool Try.underlying4 _), trodAll_mk3 (shut_wide' x0) (shut_wide' x1) (shut_wide' x2), rfl, hB.frame _, fun h => by cases h⟩
theorem fnExactPointMake_j1 : (Rows.fnExactPointMakeRow.inPlace == Try.pinned.checked.prog.inPlace 4) = true := by kernel_rfl
theorem fnExactPointMake_j2 : (Rows.fnExactPointMakeRow.unfollowed == Try.pinned.checked.prog.unfollowed 4) = true := by kernel_rfl
theorem fnExactPointMake_j3 : (Rows.fnExactPointMakeRow.recurses == Try.pinned.checked.prog.recurses 4) = true := by kernel_rfl
theorem fnExactPointMake_j4 : (Rows.fnExactPointMakeRow.named == Try.pinned.checked.prog.varsNamed 4) = true := by kernel_rfl
theorem fnExactPointMake_closed : joinedFacts Try.pinned.checked.prog 4 Try.f4 Rows.fnExactPointMakeSpec Rows.fnExactPointMakeRow = true := by
  unfold joinedFacts
  rw [fnExactPointMake_j1, fnExactPointMake_j2, fnExactPointMake_j3, fnExactPointMake_j4, jn_laid, jn_maps, jn_enter, jn_heard]
  kernel_rfl
theorem fnExactPointMake_holds : Rows.FnExactPointMakeSaid :=
  OpenClaim.holds_of_wide 4 Try.f4 rfl rfl rfl rfl rfl rfl rfl ⟨rfl, rfl, rfl, rfl, rfl⟩ rfl rfl rfl rfl rfl (by kernel_rfl) Try.func4 fnExactPointMake_closed
    (of_decide_eq_true (by kernel_rfl)) (by unfold Func.isWrapper; first | (rw [if_pos (by decide +kernel)]; kernel_rfl) | (rw [if_neg (by decide +kernel)]; exact ⟨rfl, rfl⟩))
    (fun os started H enc _ => fnExactPointMake_lifted os started H enc)
#print axioms fnExactPointMake_holds
end Go.Proofs.Ytckbhihdhcgaeaa
