/- For every point the law answers true: the text that the program writes of it is the model's; no condition. -/
import Derived.Test.YtnnojeggjnddpaaPart7
namespace Go.Proofs.Ytnnojeggjnddpaa
open Go.ChangeShapes Go.WideShapes Go.ChangeAt Go.RowKit Go.Joins
set_option maxRecDepth 100000 in
theorem fnExactPointText_lifted (os : Os) (started : os.Started) (H : Type) (enc : TypeId × Value → H) :
    ReturnsInHanded {} Try.checked os 7 .any (Rows.fnExactPointTextSpec.pre6 enc Try.prog Try.f7 Rows.fnExactPointTextRow.domain false) (Rows.fnExactPointTextSpec.post enc Try.prog Try.f7 false true false false) := by
  refine returnsInHanded_of_change (C := Try.checked) Try.own started (by kernel_rfl) Try.func7
    (ChangeSpec.witness6 (enc := enc) (C := Try.checked) false ⟨#[], #[.agg #[.int .u64 0, .int .u64 0, .int .u64 0, .int .u64 0, .int .u64 0, .int .u64 0, .int .u64 0, .int .u64 0, .int .u64 0, .int .u64 0, .int .u64 0, .int .u64 0]], []⟩ 8 (by kernel_rfl) (by kernel_rfl) (by kernel_rfl) (by kernel_rfl)) ?_
  intro W base args ds gs before hval0 hW hcnd _
  have hval : ∀ (j : Nat) t v, Try.f7.params[j]? = some t → args[j]? = some v → Value.okWide Try.prog W .any base t v := hval0
  have hW' := hW
  obtain ⟨p, q, hA0, hV, rfl, hfz, hnd⟩ := hW
  have hA : DataW.TrodAll enc Try.prog W 0 (fun _ => true) true Try.f7.params.toList args.toList ds p := hA0
  rw [Try.params7] at hA hval
  obtain ⟨v0, d0, rfl, rfl, h0⟩ := trodAll_one hA
  obtain ⟨rfl, rfl⟩ := trodVars_none hV
  obtain ⟨x0, y0, z0, rfl, rfl, rfl, tx0, ty0, tz0⟩ := open_point (hval 0 44 v0 rfl rfl) h0
  clear hA0 hval0
  refine (lawPointText_det x0 y0 z0 tx0 ty0 tz0 W).mono fun e W' ⟨he, hB⟩ => ?_
  subst he
  exact ⟨_, rfl, _, _, _, [], [], [], hW', trodAll_mk1 (shut_bool Try.underlying4 _), trodAll_mk1 (shut_point x0 y0 z0), rfl, hB.frame _, fun h => by cases h⟩
theorem fnExactPointText_j1 : (Rows.fnExactPointTextRow.inPlace == Try.pinned.checked.prog.inPlace 7) = true := by kernel_rfl
theorem fnExactPointText_j2 : (Rows.fnExactPointTextRow.unfollowed == Try.pinned.checked.prog.unfollowed 7) = true := by kernel_rfl
theorem fnExactPointText_j3 : (Rows.fnExactPointTextRow.recurses == Try.pinned.checked.prog.recurses 7) = true := by kernel_rfl
theorem fnExactPointText_j4 : (Rows.fnExactPointTextRow.named == Try.pinned.checked.prog.varsNamed 7) = true := by kernel_rfl
theorem fnExactPointText_closed : joinedFacts Try.pinned.checked.prog 7 Try.f7 Rows.fnExactPointTextSpec Rows.fnExactPointTextRow = true := by
  unfold joinedFacts
  rw [fnExactPointText_j1, fnExactPointText_j2, fnExactPointText_j3, fnExactPointText_j4, jn_laid, jn_maps, jn_enter, jn_heard]
  kernel_rfl
theorem fnExactPointText_holds : Rows.FnExactPointTextSaid :=
  OpenClaim.holds_of_wide 7 Try.f7 rfl rfl rfl rfl rfl rfl rfl ⟨rfl, rfl, rfl, rfl, rfl⟩ rfl rfl rfl rfl rfl (by kernel_rfl) Try.func7 fnExactPointText_closed
    (of_decide_eq_true (by kernel_rfl)) (by unfold Func.isWrapper; first | (rw [if_pos (by decide +kernel)]; kernel_rfl) | (rw [if_neg (by decide +kernel)]; exact ⟨rfl, rfl⟩))
    (fun os started H enc _ => fnExactPointText_lifted os started H enc)
#print axioms fnExactPointText_holds
end Go.Proofs.Ytnnojeggjnddpaa
