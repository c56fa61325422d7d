/- For every text the law answers true: the fraction that the program reads from it is the model's; no condition. -/
import Derived.Test.YtnnojeggjnddpaaPart9
import Derived.ProofKit
import Derived.SizedLaws
namespace Go.Proofs.Ytnnojeggjnddpaa
open Go.ChangeShapes Go.WideShapes Go.ChangeAt Go.RowKit
open Go.ChangeMaps (open_string shut_string)
set_option maxRecDepth 100000 in
theorem fnExactReadRatio_lifted (os : Os) (started : os.Started) (H : Type) (enc : TypeId × Value → H) :
    ReturnsInHanded {} Try.checked os 6 .any (Rows.fnExactReadRatioSpec.pre6 enc Try.prog Try.f6 Rows.fnExactReadRatioRow.domain false) (Rows.fnExactReadRatioSpec.post enc Try.prog Try.f6 false true false false) := by
  refine returnsInHanded_of_change (C := Try.checked) Try.own started (by kernel_rfl) Try.func6
    (ChangeSpec.witness6 (enc := enc) (C := Try.checked) false ⟨#[], #[.string .empty], []⟩ 8 (by kernel_rfl) (by kernel_rfl) (by kernel_rfl) (by kernel_rfl)) ?_
  intro W base args ds gs before hval0 hW hcnd _
  have hval : ∀ (j : Nat) t v, Try.f6.params[j]? = some t → args[j]? = some v → Value.okWide Try.prog W .any base t v := hval0
  have hW' := hW
  obtain ⟨p, q, hA0, hV, rfl, hfz, hnd⟩ := hW
  have hA : DataW.TrodAll enc Try.prog W 0 (fun _ => true) true Try.f6.params.toList args.toList ds p := hA0
  rw [Try.params6] at hA hval
  obtain ⟨v0, d0, rfl, rfl, h0⟩ := trodAll_one hA
  obtain ⟨rfl, rfl⟩ := trodVars_none hV
  clear hA0 hval0
  obtain ⟨s0, rfl, rfl, rfl, hs0⟩ := open_string Try.underlying9 (hval 0 9 v0 rfl rfl) h0
  simp only [List.append_nil] at hW'
  refine (lawReadRatio_any s0 W).mono fun e W' ⟨he, hB⟩ => ?_
  subst he
  exact ⟨_, rfl, ⟨_, _, _, [], _, [], hW', trodAll_mk1 (shut_bool Try.underlying4 _), trodAll_mk1 (shut_string Try.underlying9 hs0), rfl, hB.frame _, fun h => by cases h⟩⟩
theorem fnExactReadRatio_j1 : (Rows.fnExactReadRatioRow.inPlace == Try.pinned.checked.prog.inPlace 6) = true := by kernel_rfl
theorem fnExactReadRatio_j2 : (Rows.fnExactReadRatioRow.unfollowed == Try.pinned.checked.prog.unfollowed 6) = true := by kernel_rfl
theorem fnExactReadRatio_j3 : (Rows.fnExactReadRatioRow.recurses == Try.pinned.checked.prog.recurses 6) = true := by kernel_rfl
theorem fnExactReadRatio_j4 : (Rows.fnExactReadRatioRow.named == Try.pinned.checked.prog.varsNamed 6) = true := by kernel_rfl
theorem fnExactReadRatio_closed : joinedFacts Try.pinned.checked.prog 6 Try.f6 Rows.fnExactReadRatioSpec Rows.fnExactReadRatioRow = true := by
  unfold joinedFacts
  rw [fnExactReadRatio_j1, fnExactReadRatio_j2, fnExactReadRatio_j3, fnExactReadRatio_j4, jn_laid, jn_maps, jn_enter, jn_heard]
  kernel_rfl
theorem fnExactReadRatio_holds : Rows.FnExactReadRatioSaid :=
  OpenClaim.holds_of_wide 6 Try.f6 rfl rfl rfl rfl rfl rfl rfl ⟨rfl, rfl, rfl, rfl, rfl⟩ rfl rfl rfl rfl rfl (by kernel_rfl) Try.func6 fnExactReadRatio_closed
    (of_decide_eq_true (by kernel_rfl)) (by unfold Func.isWrapper; first | (rw [if_pos (by decide +kernel)]; kernel_rfl) | (rw [if_neg (by decide +kernel)]; exact ⟨rfl, rfl⟩))
    (fun os started H enc _ => fnExactReadRatio_lifted os started H enc)
#print axioms fnExactReadRatio_holds
end Go.Proofs.Ytnnojeggjnddpaa
