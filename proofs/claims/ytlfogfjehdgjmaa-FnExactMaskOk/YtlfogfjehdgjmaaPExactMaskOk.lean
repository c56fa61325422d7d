/- For every text the law answers true: the program's word on whether it is a mask is the model's; no condition. -/
import Derived.Test.YtlfogfjehdgjmaaSt1
import Derived.ProofKit
import Derived.SizedLaws
namespace Go.Proofs.Ytlfogfjehdgjmaa
open Go.ChangeShapes Go.WideShapes Go.ChangeAt Go.RowKit
open Go.ChangeMaps (open_string shut_string)
set_option maxRecDepth 100000 in
theorem fnExactMaskOk_lifted (os : Os) (started : os.Started) (H : Type) (enc : TypeId × Value → H) :
    ReturnsInHanded {} Try.checked os 5 .any (Rows.fnExactMaskOkSpec.pre6 enc Try.prog Try.f5 Rows.fnExactMaskOkRow.domain false) (Rows.fnExactMaskOkSpec.post enc Try.prog Try.f5 false true false false) := by
  refine returnsInHanded_of_change (C := Try.checked) Try.own started (by kernel_rfl) Try.func5
    (ChangeSpec.witness6 (enc := enc) (C := Try.checked) false ⟨#[], #[.string .empty], []⟩ 8 (by kernel_rfl) (by kernel_rfl) (by kernel_rfl) (by kernel_rfl)) ?_
  intro W base args ds gs before hval0 hW hcnd _
  have hval : ∀ (j : Nat) t v, Try.f5.params[j]? = some t → args[j]? = some v → Value.okWide Try.prog W .any base t v := hval0
  have hW' := hW
  obtain ⟨p, q, hA0, hV, rfl, hfz, hnd⟩ := hW
  have hA : DataW.TrodAll enc Try.prog W 0 (fun _ => true) true Try.f5.params.toList args.toList ds p := hA0
  rw [Try.params5] at hA hval
  obtain ⟨v0, d0, rfl, rfl, h0⟩ := trodAll_one hA
  obtain ⟨rfl, rfl⟩ := trodVars_none hV
  clear hA0 hval0
  obtain ⟨s0, rfl, rfl, rfl, hs0⟩ := open_string Try.underlying9 (hval 0 9 v0 rfl rfl) h0
  simp only [List.append_nil] at hW'
  refine (lawMaskOk_any s0 W).mono fun e W' ⟨he, hB⟩ => ?_
  subst he
  exact ⟨_, rfl, ⟨_, _, _, [], _, [], hW', trodAll_mk1 (shut_bool Try.underlying4 _), trodAll_mk1 (shut_string Try.underlying9 hs0), rfl, hB.frame _, fun h => by cases h⟩⟩
theorem fnExactMaskOk_j1 : (Rows.fnExactMaskOkRow.inPlace == Try.pinned.checked.prog.inPlace 5) = true := by kernel_rfl
theorem fnExactMaskOk_j2 : (Rows.fnExactMaskOkRow.unfollowed == Try.pinned.checked.prog.unfollowed 5) = true := by kernel_rfl
theorem fnExactMaskOk_j3 : (Rows.fnExactMaskOkRow.recurses == Try.pinned.checked.prog.recurses 5) = true := by kernel_rfl
theorem fnExactMaskOk_j4 : (Rows.fnExactMaskOkRow.named == Try.pinned.checked.prog.varsNamed 5) = true := by kernel_rfl
theorem fnExactMaskOk_closed : joinedFacts Try.pinned.checked.prog 5 Try.f5 Rows.fnExactMaskOkSpec Rows.fnExactMaskOkRow = true := by
  unfold joinedFacts
  rw [fnExactMaskOk_j1, fnExactMaskOk_j2, fnExactMaskOk_j3, fnExactMaskOk_j4, jn_laid, jn_maps, jn_enter, jn_heard]
  kernel_rfl
theorem fnExactMaskOk_holds : Rows.FnExactMaskOkSaid :=
  OpenClaim.holds_of_wide 5 Try.f5 rfl rfl rfl rfl rfl rfl rfl ⟨rfl, rfl, rfl, rfl, rfl⟩ rfl rfl rfl rfl rfl (by kernel_rfl) Try.func5 fnExactMaskOk_closed
    (of_decide_eq_true (by kernel_rfl)) (by unfold Func.isWrapper; first | (rw [if_pos (by decide +kernel)]; kernel_rfl) | (rw [if_neg (by decide +kernel)]; exact ⟨rfl, rfl⟩))
    (fun os started H enc _ => fnExactMaskOk_lifted os started H enc)
#print axioms fnExactMaskOk_holds
end Go.Proofs.Ytlfogfjehdgjmaa
