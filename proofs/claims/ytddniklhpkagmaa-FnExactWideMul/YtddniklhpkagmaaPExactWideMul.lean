/- For every value of four words the law answers true: the program's product is the model's; no condition. -/
import Derived.Test.YtddniklhpkagmaaLawMul
import Derived.Test.YtddniklhpkagmaaBase4
namespace Go.Proofs.Ytddniklhpkagmaa
open Go.ChangeShapes Go.WideShapes Go.ChangeAt Go.RowKit Go.Joins
set_option maxRecDepth 100000 in
theorem fnExactWideMul_lifted (os : Os) (started : os.Started) (H : Type) (enc : TypeId × Value → H) :
    ReturnsInHanded {} Try.checked os 3 .any (Rows.fnExactWideMulSpec.pre6 enc Try.prog Try.f3 Rows.fnExactWideMulRow.domain false) (Rows.fnExactWideMulSpec.post enc Try.prog Try.f3 false true false false) := by
  refine returnsInHanded_of_change (C := Try.checked) Try.own started (by kernel_rfl) Try.func3
    (ChangeSpec.witness6 (enc := enc) (C := Try.checked) false ⟨#[], #[.agg #[.int .u64 0, .int .u64 0, .int .u64 0, .int .u64 0], .agg #[.int .u64 0, .int .u64 0, .int .u64 0, .int .u64 0]], []⟩ 8 (by kernel_rfl) (by kernel_rfl) (by kernel_rfl) (by kernel_rfl)) ?_
  intro W base args ds gs before hval0 hW hcnd _
  have hval : ∀ (j : Nat) t v, Try.f3.params[j]? = some t → args[j]? = some v → Value.okWide Try.prog W .any base t v := hval0
  have hW' := hW
  obtain ⟨p, q, hA0, hV, rfl, hfz, hnd⟩ := hW
  have hA : DataW.TrodAll enc Try.prog W 0 (fun _ => true) true Try.f3.params.toList args.toList ds p := hA0
  rw [Try.params3] at hA hval
  obtain ⟨v0, v1, d0, d1, p0, p1, rfl, rfl, rfl, h0, h1⟩ := trodAll_two hA
  obtain ⟨rfl, rfl⟩ := trodVars_none hV
  obtain ⟨a3, a2, a1, a0, rfl, rfl, rfl, w3, w2, w1, w0⟩ := open_wide (hval 0 24 v0 rfl rfl) h0
  obtain ⟨b3, b2, b1, b0, rfl, rfl, rfl, x3, x2, x1, x0⟩ := open_wide (hval 1 24 v1 rfl rfl) h1
  clear hA0 hval0
  refine (lawMul_any a3 a2 a1 a0 b3 b2 b1 b0 (word_of_wf w3) (word_of_wf w2) (word_of_wf w1) (word_of_wf w0) (word_of_wf x3) (word_of_wf x2) (word_of_wf x1) (word_of_wf x0) W).mono fun e W' ⟨he, hB⟩ => ?_
  subst he
  exact ⟨_, rfl, _, _, _, [], [], [], hW', trodAll_mk1 (shut_bool Try.underlying4 _), trodAll_mk2 (shut_wide w3 w2 w1 w0) (shut_wide x3 x2 x1 x0), rfl, hB.frame _, fun h => by cases h⟩
theorem fnExactWideMul_j1 : (Rows.fnExactWideMulRow.inPlace == Try.pinned.checked.prog.inPlace 3) = true := by kernel_rfl
theorem fnExactWideMul_j2 : (Rows.fnExactWideMulRow.unfollowed == Try.pinned.checked.prog.unfollowed 3) = true := by kernel_rfl
theorem fnExactWideMul_j3 : (Rows.fnExactWideMulRow.recurses == Try.pinned.checked.prog.recurses 3) = true := by kernel_rfl
theorem fnExactWideMul_j4 : (Rows.fnExactWideMulRow.named == Try.pinned.checked.prog.varsNamed 3) = true := by kernel_rfl
theorem fnExactWideMul_closed : joinedFacts Try.pinned.checked.prog 3 Try.f3 Rows.fnExactWideMulSpec Rows.fnExactWideMulRow = true := by
  unfold joinedFacts
  rw [fnExactWideMul_j1, fnExactWideMul_j2, fnExactWideMul_j3, fnExactWideMul_j4, jn_laid, jn_maps, jn_enter, jn_heard]
  kernel_rfl
theorem fnExactWideMul_holds : Rows.FnExactWideMulSaid :=
  OpenClaim.holds_of_wide 3 Try.f3 rfl rfl rfl rfl rfl rfl rfl ⟨rfl, rfl, rfl, rfl, rfl⟩ rfl rfl rfl rfl rfl (by kernel_rfl) Try.func3 fnExactWideMul_closed
    (of_decide_eq_true (by kernel_rfl)) (by unfold Func.isWrapper; first | (rw [if_pos (by decide +kernel)]; kernel_rfl) | (rw [if_neg (by decide +kernel)]; exact ⟨rfl, rfl⟩))
    (fun os started H enc _ => fnExactWideMul_lifted os started H enc)
#print axioms fnExactWideMul_holds
end Go.Proofs.Ytddniklhpkagmaa
