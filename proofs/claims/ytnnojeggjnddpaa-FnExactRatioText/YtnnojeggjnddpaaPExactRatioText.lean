/- For every fraction the law answers true: the text that the program writes of it is the model's; no condition. -/
import Derived.Test.YtnnojeggjnddpaaPart6
namespace Go.Proofs.Ytnnojeggjnddpaa
open Go.ChangeShapes Go.WideShapes Go.ChangeAt Go.RowKit Go.Joins
set_option maxRecDepth 100000 in
theorem fnExactRatioText_lifted (os : Os) (started : os.Started) (H : Type) (enc : TypeId × Value → H) :
    ReturnsInHanded {} Try.checked os 5 .any (Rows.fnExactRatioTextSpec.pre6 enc Try.prog Try.f5 Rows.fnExactRatioTextRow.domain false) (Rows.fnExactRatioTextSpec.post enc Try.prog Try.f5 false true false false) := by
  refine returnsInHanded_of_change (C := Try.checked) Try.own started (by kernel_rfl) Try.func5
    (ChangeSpec.witness6 (enc := enc) (C := Try.checked) false ⟨#[], #[.agg #[.int .u64 0, .int .u64 0, .int .u64 0, .int .u64 0, .int .u64 0, .int .u64 0, .int .u64 0, .int .u64 0]], []⟩ 8 (by kernel_rfl) (by kernel_rfl) (by kernel_rfl) (by kernel_rfl)) ?_
  intro W base args ds gs before hval0 hW hcnd _
  have hval : ∀ (j : Nat) t v, Try.f5.params[j]? = some t → args[j]? = some v → Value.okWide Try.prog W .any base t v := hval0
  have hW' := hW
  obtain ⟨p, q, hA0, hV, rfl, hfz, hnd⟩ := hW
  have hA : DataW.TrodAll enc Try.prog W 0 (fun _ => true) true Try.f5.params.toList args.toList ds p := hA0
  rw [Try.params5] at hA hval
  obtain ⟨v0, d0, rfl, rfl, h0⟩ := trodAll_one hA
  obtain ⟨rfl, rfl⟩ := trodVars_none hV
  obtain ⟨a3, a2, a1, a0, b3, b2, b1, b0, rfl, rfl, rfl, wa, wb⟩ := open_ratio (hval 0 34 v0 rfl rfl) h0
  clear hA0 hval0
  refine (lawRatioText_any a3 a2 a1 a0 b3 b2 b1 b0 (word_of_wf wa.1) (word_of_wf wa.2.1) (word_of_wf wa.2.2.1) (word_of_wf wa.2.2.2) (word_of_wf wb.1) (word_of_wf wb.2.1) (word_of_wf wb.2.2.1) (word_of_wf wb.2.2.2) W).mono fun e W' ⟨he, hB⟩ => ?_
  subst he
  exact ⟨_, rfl, _, _, _, [], [], [], hW', trodAll_mk1 (shut_bool Try.underlying4 _), trodAll_mk1 (shut_ratio wa wb), rfl, hB.frame _, fun h => by cases h⟩
theorem fnExactRatioText_holds : Rows.FnExactRatioTextSaid :=
  OpenClaim.holds_of_wide 5 Try.f5 rfl rfl rfl rfl rfl rfl rfl ⟨rfl, rfl, rfl, rfl, rfl⟩ rfl rfl rfl rfl rfl (by kernel_rfl) Try.func5 (by kernel_rfl)
    (of_decide_eq_true (by kernel_rfl)) (by unfold Func.isWrapper; first | (rw [if_pos (by decide +kernel)]; kernel_rfl) | (rw [if_neg (by decide +kernel)]; exact ⟨rfl, rfl⟩))
    (fun os started H enc _ => fnExactRatioText_lifted os started H enc)
#print axioms fnExactRatioText_holds
end Go.Proofs.Ytnnojeggjnddpaa
