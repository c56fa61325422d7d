/- For every text the law answers true: the point that the program reads from it is the model's; no condition. -/
import Derived.Test.YtnnojeggjnddpaaPart10
import Derived.ProofKit
import Derived.SizedLaws
namespace Go.Proofs.Ytnnojeggjnddpaa
open Go.ChangeShapes Go.WideShapes Go.ChangeAt Go.RowKit
open Go.ChangeMaps (open_string shut_string)
set_option maxRecDepth 100000 in
theorem fnExactReadPoint_lifted (os : Os) (started : os.Started) (H : Type) (enc : TypeId × Value → H) :
    ReturnsInHanded {} Try.checked os 8 .any (Rows.fnExactReadPointSpec.pre6 enc Try.prog Try.f8 Rows.fnExactReadPointRow.domain false) (Rows.fnExactReadPointSpec.post enc Try.prog Try.f8 false true false false) := by
  refine returnsInHanded_of_change (C := Try.checked) Try.own started (by kernel_rfl) Try.func8
    (ChangeSpec.witness6 (enc := enc) (C := Try.checked) false ⟨#[], #[.string .empty], []⟩ 8 (by kernel_rfl) (by kernel_rfl) (by kernel_rfl) (by kernel_rfl)) ?_
  intro W base args ds gs before hval0 hW hcnd _
  have hval : ∀ (j : Nat) t v, Try.f8.params[j]? = some t → args[j]? = some v → Value.okWide Try.prog W .any base t v := hval0
  have hW' := hW
  obtain ⟨p, q, hA0, hV, rfl, hfz, hnd⟩ := hW
  have hA : DataW.TrodAll enc Try.prog W 0 (fun _ => true) true Try.f8.params.toList args.toList ds p := hA0
  rw [Try.params8] at hA hval
  obtain ⟨v0, d0, rfl, rfl, h0⟩ := trodAll_one hA
  obtain ⟨rfl, rfl⟩ := trodVars_none hV
  clear hA0 hval0
  obtain ⟨s0, rfl, rfl, rfl, hs0⟩ := open_string Try.underlying9 (hval 0 9 v0 rfl rfl) h0
  simp only [List.append_nil] at hW'
  refine (lawReadPoint_any s0 W).mono fun e W' ⟨he, hB⟩ => ?_
  subst he
  exact ⟨_, rfl, ⟨_, _, _, [], _, [], hW', trodAll_mk1 (shut_bool Try.underlying4 _), trodAll_mk1 (shut_string Try.underlying9 hs0), rfl, hB.frame _, fun h => by cases h⟩⟩
theorem fnExactReadPoint_j1 : (Rows.fnExactReadPointRow.inPlace == Try.pinned.checked.prog.inPlace 8) = true := by kernel_rfl
theorem fnExactReadPoint_j2 : (Rows.fnExactReadPointRow.unfollowed == Try.pinned.checked.prog.unfollowed 8) = true := by kernel_rfl
theorem fnExactReadPoint_j3 : (Rows.fnExactReadPointRow.recurses == Try.pinned.checked.prog.recurses 8) = true := by kernel_rfl
theorem fnExactReadPoint_j4 : (Rows.fnExactReadPointRow.named == Try.pinned.checked.prog.varsNamed 8) = true := by kernel_rfl
theorem fnExactReadPoint_closed : joinedFacts Try.pinned.checked.prog 8 Try.f8 Rows.fnExactReadPointSpec Rows.fnExactReadPointRow = true := by
  unfold joinedFacts
  rw [fnExactReadPoint_j1, fnExactReadPoint_j2, fnExactReadPoint_j3, fnExactReadPoint_j4, jn_laid, jn_maps, jn_enter, jn_heard]
  kernel_rfl
theorem fnExactReadPoint_holds : Rows.FnExactReadPointSaid :=
  OpenClaim.holds_of_wide 8 Try.f8 rfl rfl rfl rfl rfl rfl rfl ⟨rfl, rfl, rfl, rfl, rfl⟩ rfl rfl rfl rfl rfl (by kernel_rfl) Try.func8 fnExactReadPoint_closed
    (of_decide_eq_true (by kernel_rfl)) (by unfold Func.isWrapper; first | (rw [if_pos (by decide +kernel)]; kernel_rfl) | (rw [if_neg (by decide +kernel)]; exact ⟨rfl, rfl⟩))
    (fun os started H enc _ => fnExactReadPoint_lifted os started H enc)
#print axioms fnExactReadPoint_holds
end Go.Proofs.Ytnnojeggjnddpaa
