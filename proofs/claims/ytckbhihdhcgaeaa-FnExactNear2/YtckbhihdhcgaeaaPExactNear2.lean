/- For every segment and spot the law answers true: the program's square of their distance is the model's; no condition. -/
import Derived.Test.YtckbhihdhcgaeaaLawNear2
import Derived.Test.YtckbhihdhcgaeaaBas12
namespace Go.Proofs.Ytckbhihdhcgaeaa
open Go.ChangeShapes Go.WideShapes Go.ChangeAt Go.RowKit Go.Joins
set_option maxRecDepth 100000 in
theorem fnExactNear2_lifted (os : Os) (started : os.Started) (H : Type) (enc : TypeId × Value → H) :
    ReturnsInHanded {} Try.checked os 13 .any (Rows.fnExactNear2Spec.pre6 enc Try.prog Try.f13 Rows.fnExactNear2Row.domain false) (Rows.fnExactNear2Spec.post enc Try.prog Try.f13 false true false false) := by
  refine returnsInHanded_of_change (C := Try.checked) Try.own started (by kernel_rfl) Try.func13
    (ChangeSpec.witness6 (enc := enc) (C := Try.checked) false ⟨#[], #[.agg #[.int .i64 0, .int .i64 0, .int .i64 0, .int .i64 0], .agg #[.int .i64 0, .int .i64 0]], []⟩ 8 (by kernel_rfl) (by kernel_rfl) (by kernel_rfl) (by kernel_rfl)) ?_
  intro W base args ds gs before hval0 hW hcnd _
  have hval : ∀ (j : Nat) t v, Try.f13.params[j]? = some t → args[j]? = some v → Value.okWide Try.prog W .any base t v := hval0
  have hW' := hW
  obtain ⟨p, q, hA0, hV, rfl, hfz, hnd⟩ := hW
  have hA : DataW.TrodAll enc Try.prog W 0 (fun _ => true) true Try.f13.params.toList args.toList ds p := hA0
  rw [Try.params13] at hA hval
  obtain ⟨v0, v1, d0, d1, q0, q1, rfl, rfl, rfl, h0, h1⟩ := trodAll_two hA
  obtain ⟨rfl, rfl⟩ := trodVars_none hV
  obtain ⟨a0, b0, c0, d0, rfl, rfl, rfl, wa0, wb0, wc0, wd0⟩ := open_seg (hval 0 52 v0 rfl rfl) h0
  obtain ⟨x1, y1, rfl, rfl, rfl, wx1, wy1⟩ := open_spot (hval 1 50 v1 rfl rfl) h1
  clear hA0 hval0
  refine (lawNear2_any a0 b0 c0 d0 x1 y1   W).mono fun e W' ⟨he, hB⟩ => ?_
  subst he
  exact ⟨_, rfl, _, _, _, [], [], [], hW', trodAll_mk1 (shut_bool Try.underlying4 _), trodAll_mk2 (shut_seg wa0 wb0 wc0 wd0) (shut_spot wx1 wy1), rfl, hB.frame _, fun h => by cases h⟩
theorem fnExactNear2_j1 : (Rows.fnExactNear2Row.inPlace == Try.pinned.checked.prog.inPlace 13) = true := by kernel_rfl
theorem fnExactNear2_j2 : (Rows.fnExactNear2Row.unfollowed == Try.pinned.checked.prog.unfollowed 13) = true := by kernel_rfl
theorem fnExactNear2_j3 : (Rows.fnExactNear2Row.recurses == Try.pinned.checked.prog.recurses 13) = true := by kernel_rfl
theorem fnExactNear2_j4 : (Rows.fnExactNear2Row.named == Try.pinned.checked.prog.varsNamed 13) = true := by kernel_rfl
theorem fnExactNear2_closed : joinedFacts Try.pinned.checked.prog 13 Try.f13 Rows.fnExactNear2Spec Rows.fnExactNear2Row = true := by
  unfold joinedFacts
  rw [fnExactNear2_j1, fnExactNear2_j2, fnExactNear2_j3, fnExactNear2_j4, jn_laid, jn_maps, jn_enter, jn_heard]
  kernel_rfl
theorem fnExactNear2_holds : Rows.FnExactNear2Said :=
  OpenClaim.holds_of_wide 13 Try.f13 rfl rfl rfl rfl rfl rfl rfl ⟨rfl, rfl, rfl, rfl, rfl⟩ rfl rfl rfl rfl rfl (by kernel_rfl) Try.func13 fnExactNear2_closed
    (of_decide_eq_true (by kernel_rfl)) (by unfold Func.isWrapper; first | (rw [if_pos (by decide +kernel)]; kernel_rfl) | (rw [if_neg (by decide +kernel)]; exact ⟨rfl, rfl⟩))
    (fun os started H enc _ => fnExactNear2_lifted os started H enc)
#print axioms fnExactNear2_holds
end Go.Proofs.Ytckbhihdhcgaeaa
