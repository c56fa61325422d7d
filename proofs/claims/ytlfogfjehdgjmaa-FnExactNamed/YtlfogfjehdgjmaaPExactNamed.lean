/- For every two texts the law answers true: the program's word on whether the matrix is as the name says is the model's; no condition. -/
import Derived.Test.YtlfogfjehdgjmaaNamC
import Derived.ProofKit
import Derived.SizedLaws
import Derived.Test.YtlfogfjehdgjmaaOpen
import Derived.Test.YtlfogfjehdgjmaaJn
namespace Go.Proofs.Ytlfogfjehdgjmaa
open Go.ChangeShapes Go.WideShapes Go.ChangeAt Go.RowKit
open Go.ChangeMaps (open_string shut_string)
set_option maxRecDepth 100000 in
theorem fnExactNamed_lifted (os : Os) (started : os.Started) (H : Type) (enc : TypeId × Value → H) :
    ReturnsInHanded {} Try.checked os 7 .any (Rows.fnExactNamedSpec.pre6 enc Try.prog Try.f7 Rows.fnExactNamedRow.domain false) (Rows.fnExactNamedSpec.post enc Try.prog Try.f7 false true false false) := by
  refine returnsInHanded_of_change (C := Try.checked) Try.own started (by kernel_rfl) Try.func7
    (ChangeSpec.witness6 (enc := enc) (C := Try.checked) false ⟨#[], #[.string .empty, .string .empty], []⟩ 8 (by kernel_rfl) (by kernel_rfl) (by kernel_rfl) (by kernel_rfl)) ?_
  intro W base args ds gs before hval0 hW hcnd _
  have hval : ∀ (j : Nat) t v, Try.f7.params[j]? = some t → args[j]? = some v → Value.okWide Try.prog W .any base t v := hval0
  have hW' := hW
  obtain ⟨p, q, hA0, hV, rfl, hfz, hnd⟩ := hW
  have hA : DataW.TrodAll enc Try.prog W 0 (fun _ => true) true Try.f7.params.toList args.toList ds p := hA0
  rw [Try.params7] at hA hval
  obtain ⟨v0, v1, d0, d1, p0, p1, rfl, rfl, rfl, h0, h1⟩ := trodAll_two hA
  obtain ⟨rfl, rfl⟩ := trodVars_none hV
  clear hA0 hval0
  obtain ⟨s0, rfl, rfl, rfl, hs0⟩ := open_string Try.underlying9 (hval 0 9 v0 rfl rfl) h0
  obtain ⟨s1, rfl, rfl, rfl, hs1⟩ := open_string Try.underlying9 (hval 1 9 v1 rfl rfl) h1
  simp only [List.append_nil] at hW'
  refine (lawNamed_any s0 s1 W).mono fun e W' ⟨he, hB⟩ => ?_
  subst he
  exact ⟨_, rfl, ⟨_, _, _, [], _, [], hW', trodAll_mk1 (shut_bool Try.underlying4 _), trodAll_mk2 (shut_string Try.underlying9 hs0) (shut_string Try.underlying9 hs1), rfl, hB.frame _, fun h => by cases h⟩⟩
theorem fnExactNamed_j1 : (Rows.fnExactNamedRow.inPlace == Try.pinned.checked.prog.inPlace 7) = true := by kernel_rfl
theorem fnExactNamed_j2 : (Rows.fnExactNamedRow.unfollowed == Try.pinned.checked.prog.unfollowed 7) = true := by kernel_rfl
theorem fnExactNamed_j3 : (Rows.fnExactNamedRow.recurses == Try.pinned.checked.prog.recurses 7) = true := by kernel_rfl
theorem fnExactNamed_j4 : (Rows.fnExactNamedRow.named == Try.pinned.checked.prog.varsNamed 7) = true := by kernel_rfl
theorem fnExactNamed_closed : joinedFacts Try.pinned.checked.prog 7 Try.f7 Rows.fnExactNamedSpec Rows.fnExactNamedRow = true := by
  unfold joinedFacts
  rw [fnExactNamed_j1, fnExactNamed_j2, fnExactNamed_j3, fnExactNamed_j4, jn_laid, jn_maps, jn_enter, jn_heard]
  kernel_rfl
theorem fnExactNamed_holds : Rows.FnExactNamedSaid :=
  OpenClaim.holds_of_wide 7 Try.f7 rfl rfl rfl rfl rfl rfl rfl ⟨rfl, rfl, rfl, rfl, rfl⟩ rfl rfl rfl rfl rfl (by kernel_rfl) Try.func7 fnExactNamed_closed
    (of_decide_eq_true (by kernel_rfl)) (by unfold Func.isWrapper; first | (rw [if_pos (by decide +kernel)]; kernel_rfl) | (rw [if_neg (by decide +kernel)]; exact ⟨rfl, rfl⟩))
    (fun os started H enc _ => fnExactNamed_lifted os started H enc)
#print axioms fnExactNamed_holds
end Go.Proofs.Ytlfogfjehdgjmaa
