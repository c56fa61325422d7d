/- For every fraction the law answers true: the program's order of two fractions is the model's; no condition. -/
import Derived.Test.YtlfogfjehdgjmaaPart7
namespace Go.Proofs.Ytlfogfjehdgjmaa
open Go.ChangeShapes Go.WideShapes Go.ChangeAt Go.RowKit Go.Joins
set_option maxRecDepth 100000 in
theorem fnExactRatioCmp_lifted (os : Os) (started : os.Started) (H : Type) (enc : TypeId × Value → H) :
    ReturnsInHanded {} Try.checked os 4 .any (Rows.fnExactRatioCmpSpec.pre6 enc Try.prog Try.f4 Rows.fnExactRatioCmpRow.domain false) (Rows.fnExactRatioCmpSpec.post enc Try.prog Try.f4 false true false false) := by
  refine returnsInHanded_of_change (C := Try.checked) Try.own started (by kernel_rfl) Try.func4
    (ChangeSpec.witness6 (enc := enc) (C := Try.checked) false ⟨#[], #[.agg #[.int .u64 0, .int .u64 0, .int .u64 0, .int .u64 0, .int .u64 0, .int .u64 0, .int .u64 0, .int .u64 0], .agg #[.int .u64 0, .int .u64 0, .int .u64 0, .int .u64 0, .int .u64 0, .int .u64 0, .int .u64 0, .int .u64 0]], []⟩ 8 (by kernel_rfl) (by kernel_rfl) (by kernel_rfl) (by kernel_rfl)) ?_
  intro W base args ds gs before hval0 hW hcnd _
  have hval : ∀ (j : Nat) t v, Try.f4.params[j]? = some t → args[j]? = some v → Value.okWide Try.prog W .any base t v := hval0
  have hW' := hW
  obtain ⟨p, q, hA0, hV, rfl, hfz, hnd⟩ := hW
  have hA : DataW.TrodAll enc Try.prog W 0 (fun _ => true) true Try.f4.params.toList args.toList ds p := hA0
  rw [Try.params4] at hA hval
  obtain ⟨v0, v1, d0, d1, p0, p1, rfl, rfl, rfl, h0, h1⟩ := trodAll_two hA
  obtain ⟨rfl, rfl⟩ := trodVars_none hV
  obtain ⟨a3, a2, a1, a0, b3, b2, b1, b0, rfl, rfl, rfl, wa, wb⟩ := open_ratio (hval 0 33 v0 rfl rfl) h0
  obtain ⟨c3, c2, c1, c0, d3, d2, d1, d0, rfl, rfl, rfl, wc, wd⟩ := open_ratio (hval 1 33 v1 rfl rfl) h1
  clear hA0 hval0
  refine (lawRatioCmp_any a3 a2 a1 a0 b3 b2 b1 b0 c3 c2 c1 c0 d3 d2 d1 d0 (word_of_wf wa.1) (word_of_wf wa.2.1) (word_of_wf wa.2.2.1) (word_of_wf wa.2.2.2) (word_of_wf wb.1) (word_of_wf wb.2.1) (word_of_wf wb.2.2.1) (word_of_wf wb.2.2.2) (word_of_wf wc.1) (word_of_wf wc.2.1) (word_of_wf wc.2.2.1) (word_of_wf wc.2.2.2) (word_of_wf wd.1) (word_of_wf wd.2.1) (word_of_wf wd.2.2.1) (word_of_wf wd.2.2.2) W).mono fun e W' ⟨he, hB⟩ => ?_
  subst he
  exact ⟨_, rfl, _, _, _, [], [], [], hW', trodAll_mk1 (shut_bool Try.underlying4 _), trodAll_mk2 (shut_ratio wa wb) (shut_ratio wc wd), rfl, hB.frame _, fun h => by cases h⟩
theorem fnExactRatioCmp_holds : Rows.FnExactRatioCmpSaid :=
  OpenClaim.holds_of_wide 4 Try.f4 rfl rfl rfl rfl rfl rfl rfl ⟨rfl, rfl, rfl, rfl, rfl⟩ rfl rfl rfl rfl rfl (by kernel_rfl) Try.func4 (by kernel_rfl)
    (of_decide_eq_true (by kernel_rfl)) (by unfold Func.isWrapper; first | (rw [if_pos (by decide +kernel)]; kernel_rfl) | (rw [if_neg (by decide +kernel)]; exact ⟨rfl, rfl⟩))
    (fun os started H enc _ => fnExactRatioCmp_lifted os started H enc)
#print axioms fnExactRatioCmp_holds
end Go.Proofs.Ytlfogfjehdgjmaa
