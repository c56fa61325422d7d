/- For every two numbers the law answers true: the program's tree without items is the model's, and is its own; no condition. -/
import Derived.Test.YtofjlobbohfacaaQnE
import Derived.Test.YtofjlobbohfacaaOpen
import Derived.Test.YtofjlobbohfacaaJn
namespace Go.Proofs.Ytofjlobbohfacaa
open Go.ChangeShapes Go.WideShapes Go.ChangeAt Go.RowKit Go.Joins
set_option maxRecDepth 100000 in
theorem fnExactQuadNew_lifted (os : Os) (started : os.Started) (H : Type) (enc : TypeId × Value → H) :
    ReturnsInHanded {} Try.checked os 5 .any (Rows.fnExactQuadNewSpec.pre6 enc Try.prog Try.f5 Rows.fnExactQuadNewRow.domain false) (Rows.fnExactQuadNewSpec.post enc Try.prog Try.f5 false true false false) := by
  refine returnsInHanded_of_change (C := Try.checked) Try.own started (by kernel_rfl) Try.func5
    (ChangeSpec.witness6 (enc := enc) (C := Try.checked) false ⟨#[], #[.int .i64 0, .int .i64 0], []⟩ 8 (by kernel_rfl) (by kernel_rfl) (by kernel_rfl) (by kernel_rfl)) ?_
  intro W base args ds gs before hval0 hW hcnd _
  have hval : ∀ (j : Nat) t v, Try.f5.params[j]? = some t → args[j]? = some v → Value.okWide Try.prog W .any base t v := hval0
  have hW' := hW
  obtain ⟨p, q, hA0, hV, rfl, hfz, hnd⟩ := hW
  have hA : DataW.TrodAll enc Try.prog W 0 (fun _ => true) true Try.f5.params.toList args.toList ds p := hA0
  rw [Try.params5] at hA hval
  obtain ⟨v0, v1, d0, d1, q0, q1, rfl, rfl, rfl, h0, h1⟩ := trodAll_two hA
  obtain ⟨rfl, rfl⟩ := trodVars_none hV
  obtain ⟨a, rfl, rfl, rfl, wa⟩ := open_int Try.underlying2 (hval 0 2 v0 rfl rfl) h0
  obtain ⟨b, rfl, rfl, rfl, wb⟩ := open_int Try.underlying2 (hval 1 2 v1 rfl rfl) h1
  clear hA0 hval0
  refine (lawQuadNew_any a b W).mono fun e W' ⟨he, hB⟩ => ?_
  subst he
  exact ⟨_, rfl, _, _, _, [], [], [], hW', trodAll_mk1 (shut_bool Try.underlying4 _), trodAll_mk2 (shut_int Try.underlying2 wa) (shut_int Try.underlying2 wb), rfl, hB.frame _, fun h => by cases h⟩
theorem fnExactQuadNew_j1 : (Rows.fnExactQuadNewRow.inPlace == Try.pinned.checked.prog.inPlace 5) = true := by kernel_rfl
theorem fnExactQuadNew_j2 : (Rows.fnExactQuadNewRow.unfollowed == Try.pinned.checked.prog.unfollowed 5) = true := by kernel_rfl
theorem fnExactQuadNew_j3 : (Rows.fnExactQuadNewRow.recurses == Try.pinned.checked.prog.recurses 5) = true := by kernel_rfl
theorem fnExactQuadNew_j4 : (Rows.fnExactQuadNewRow.named == Try.pinned.checked.prog.varsNamed 5) = true := by kernel_rfl
theorem fnExactQuadNew_closed : joinedFacts Try.pinned.checked.prog 5 Try.f5 Rows.fnExactQuadNewSpec Rows.fnExactQuadNewRow = true := by
  unfold joinedFacts
  rw [fnExactQuadNew_j1, fnExactQuadNew_j2, fnExactQuadNew_j3, fnExactQuadNew_j4, jn_laid, jn_maps, jn_enter, jn_heard]
  kernel_rfl
theorem fnExactQuadNew_holds : Rows.FnExactQuadNewSaid :=
  OpenClaim.holds_of_wide 5 Try.f5 rfl rfl rfl rfl rfl rfl rfl ⟨rfl, rfl, rfl, rfl, rfl⟩ rfl rfl rfl rfl rfl (by kernel_rfl) Try.func5 fnExactQuadNew_closed
    (of_decide_eq_true (by kernel_rfl)) (by unfold Func.isWrapper; first | (rw [if_pos (by decide +kernel)]; kernel_rfl) | (rw [if_neg (by decide +kernel)]; exact ⟨rfl, rfl⟩))
    (fun os started H enc _ => fnExactQuadNew_lifted os started H enc)
#print axioms fnExactQuadNew_holds
end Go.Proofs.Ytofjlobbohfacaa
