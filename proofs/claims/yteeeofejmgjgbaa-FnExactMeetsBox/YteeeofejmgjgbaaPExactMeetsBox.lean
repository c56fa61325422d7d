/- For all spots and segments the law answers true: the program's answer on a segment and a box is the model's; no condition. -/
import Derived.Test.YteeeofejmgjgbaaSegJ
import Derived.Test.YteeeofejmgjgbaaSegO
namespace Go.Proofs.Yteeeofejmgjgbaa
open Go.ChangeShapes Go.WideShapes Go.ChangeAt Go.RowKit Go.Joins
set_option maxRecDepth 100000 in
theorem fnExactMeetsBox_lifted (os : Os) (started : os.Started) (H : Type) (enc : TypeId × Value → H) :
    ReturnsInHanded {} Try.checked os 3 .any (Rows.fnExactMeetsBoxSpec.pre6 enc Try.prog Try.f3 Rows.fnExactMeetsBoxRow.domain false) (Rows.fnExactMeetsBoxSpec.post enc Try.prog Try.f3 false true false false) := by
  refine returnsInHanded_of_change (C := Try.checked) Try.own started (by kernel_rfl) Try.func3
    (ChangeSpec.witness6 (enc := enc) (C := Try.checked) false ⟨#[], #[.agg #[.int .i64 0, .int .i64 0, .int .i64 0, .int .i64 0], .agg #[.int .i64 0, .int .i64 0], .agg #[.int .i64 0, .int .i64 0]], []⟩ 8 (by kernel_rfl) (by kernel_rfl) (by kernel_rfl) (by kernel_rfl)) ?_
  intro W base args ds gs before hval0 hW hcnd _
  have hval : ∀ (j : Nat) t v, Try.f3.params[j]? = some t → args[j]? = some v → Value.okWide Try.prog W .any base t v := hval0
  have hW' := hW
  obtain ⟨p, q, hA0, hV, rfl, hfz, hnd⟩ := hW
  have hA : DataW.TrodAll enc Try.prog W 0 (fun _ => true) true Try.f3.params.toList args.toList ds p := hA0
  rw [Try.params3] at hA hval
  obtain ⟨v0, v1, v2, d0, d1, d2, p0, p1, p2, rfl, rfl, rfl, h0, h1, h2⟩ := trodAll_three hA
  obtain ⟨rfl, rfl⟩ := trodVars_none hV
  obtain ⟨a, b, c, e, rfl, rfl, rfl, wa, wb, wc, we⟩ := open_seg (hval 0 25 v0 rfl rfl) h0
  obtain ⟨x, y, rfl, rfl, rfl, wx, wy⟩ := open_spot (hval 1 23 v1 rfl rfl) h1
  obtain ⟨u, v, rfl, rfl, rfl, wu, wv⟩ := open_spot (hval 2 23 v2 rfl rfl) h2
  clear hA0 hval0
  refine (lawMeetsBox_any a b c e x y u v W).mono fun e W' ⟨he, hB⟩ => ?_
  subst he
  exact ⟨_, rfl, _, _, _, [], [], [], hW', trodAll_mk1 (shut_bool Try.underlying4 _), trodAll_mk3 (shut_seg wa wb wc we) (shut_spot wx wy) (shut_spot wu wv), rfl, hB.frame _, fun h => by cases h⟩
theorem fnExactMeetsBox_holds : Rows.FnExactMeetsBoxSaid :=
  OpenClaim.holds_of_wide 3 Try.f3 rfl rfl rfl rfl rfl rfl rfl ⟨rfl, rfl, rfl, rfl, rfl⟩ rfl rfl rfl rfl rfl (by kernel_rfl) Try.func3 (by kernel_rfl)
    (of_decide_eq_true (by kernel_rfl)) (by unfold Func.isWrapper; first | (rw [if_pos (by decide +kernel)]; kernel_rfl) | (rw [if_neg (by decide +kernel)]; exact ⟨rfl, rfl⟩))
    (fun os started H enc _ => fnExactMeetsBox_lifted os started H enc)
#print axioms fnExactMeetsBox_holds
end Go.Proofs.Yteeeofejmgjgbaa
