/- For every two segments the law answers true: where they meet, and how, the program says as the model does; no condition. -/
import Derived.Test.YtggfhpnflknhdaaPart11
namespace Go.Proofs.Ytggfhpnflknhdaa
open Go.ChangeShapes Go.WideShapes Go.ChangeAt Go.RowKit Go.Joins
set_option maxRecDepth 100000 in
theorem fnExactMeet_lifted (os : Os) (started : os.Started) (H : Type) (enc : TypeId × Value → H) :
    ReturnsInHanded {} Try.checked os 3 .any (Rows.fnExactMeetSpec.pre6 enc Try.prog Try.f3 Rows.fnExactMeetRow.domain false) (Rows.fnExactMeetSpec.post enc Try.prog Try.f3 false true false false) := by
  refine returnsInHanded_of_change (C := Try.checked) Try.own started (by kernel_rfl) Try.func3
    (ChangeSpec.witness6 (enc := enc) (C := Try.checked) false ⟨#[], #[.agg #[.int .i64 0, .int .i64 0, .int .i64 0, .int .i64 0], .agg #[.int .i64 0, .int .i64 0, .int .i64 0, .int .i64 0]], []⟩ 8 (by kernel_rfl) (by kernel_rfl) (by kernel_rfl) (by kernel_rfl)) ?_
  intro W base args ds gs before hval0 hW hcnd _
  have hval : ∀ (j : Nat) t v, Try.f3.params[j]? = some t → args[j]? = some v → Value.okWide Try.prog W .any base t v := hval0
  have hW' := hW
  obtain ⟨p, q, hA0, hV, rfl, hfz, hnd⟩ := hW
  have hA : DataW.TrodAll enc Try.prog W 0 (fun _ => true) true Try.f3.params.toList args.toList ds p := hA0
  rw [Try.params3] at hA hval
  obtain ⟨v0, v1, d0, d1, q0, q1, rfl, rfl, rfl, h0, h1⟩ := trodAll_two hA
  obtain ⟨rfl, rfl⟩ := trodVars_none hV
  obtain ⟨a0, b0, c0, d0, rfl, rfl, rfl, wa0, wb0, wc0, wd0⟩ := open_seg (hval 0 25 v0 rfl rfl) h0
  obtain ⟨a1, b1, c1, d1, rfl, rfl, rfl, wa1, wb1, wc1, wd1⟩ := open_seg (hval 1 25 v1 rfl rfl) h1
  clear hA0 hval0
  refine (lawMeet_any a0 b0 c0 d0 a1 b1 c1 d1 W).mono fun e W' ⟨he, hB⟩ => ?_
  subst he
  exact ⟨_, rfl, _, _, _, [], [], [], hW', trodAll_mk1 (shut_bool Try.underlying4 _), trodAll_mk2 (shut_seg wa0 wb0 wc0 wd0) (shut_seg wa1 wb1 wc1 wd1), rfl, hB.frame _, fun h => by cases h⟩
theorem fnExactMeet_j1 : (Rows.fnExactMeetRow.inPlace == Try.pinned.checked.prog.inPlace 3) = true := by kernel_rfl
theorem fnExactMeet_j2 : (Rows.fnExactMeetRow.unfollowed == Try.pinned.checked.prog.unfollowed 3) = true := by kernel_rfl
theorem fnExactMeet_j3 : (Rows.fnExactMeetRow.recurses == Try.pinned.checked.prog.recurses 3) = true := by kernel_rfl
theorem fnExactMeet_j4 : (Rows.fnExactMeetRow.named == Try.pinned.checked.prog.varsNamed 3) = true := by kernel_rfl
theorem fnExactMeet_closed : joinedFacts Try.pinned.checked.prog 3 Try.f3 Rows.fnExactMeetSpec Rows.fnExactMeetRow = true := by
  unfold joinedFacts
  rw [fnExactMeet_j1, fnExactMeet_j2, fnExactMeet_j3, fnExactMeet_j4, jn_laid, jn_maps, jn_enter, jn_heard]
  kernel_rfl
theorem fnExactMeet_holds : Rows.FnExactMeetSaid :=
  OpenClaim.holds_of_wide 3 Try.f3 rfl rfl rfl rfl rfl rfl rfl ⟨rfl, rfl, rfl, rfl, rfl⟩ rfl rfl rfl rfl rfl (by kernel_rfl) Try.func3 fnExactMeet_closed
    (of_decide_eq_true (by kernel_rfl)) (by unfold Func.isWrapper; first | (rw [if_pos (by decide +kernel)]; kernel_rfl) | (rw [if_neg (by decide +kernel)]; exact ⟨rfl, rfl⟩))
    (fun os started H enc _ => fnExactMeet_lifted os started H enc)
#print axioms fnExactMeet_holds
end Go.Proofs.Ytggfhpnflknhdaa
