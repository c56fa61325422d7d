/- For every segment and point the law answers true: the program's word on where the segment stands over the point is the model's; no condition. -/
import Derived.Test.YtckbhihdhcgaeaaLawOverAt
import Derived.Test.YtckbhihdhcgaeaaSgO
import Derived.Test.YtckbhihdhcgaeaaBase12
namespace Go.Proofs.Ytckbhihdhcgaeaa
open Go.ChangeShapes Go.WideShapes Go.ChangeAt Go.RowKit Go.Joins
set_option maxRecDepth 100000 in
theorem fnExactOverAt_lifted (os : Os) (started : os.Started) (H : Type) (enc : TypeId × Value → H) :
    ReturnsInHanded {} Try.checked os 14 .any (Rows.fnExactOverAtSpec.pre6 enc Try.prog Try.f14 Rows.fnExactOverAtRow.domain false) (Rows.fnExactOverAtSpec.post enc Try.prog Try.f14 false true false false) := by
  refine returnsInHanded_of_change (C := Try.checked) Try.own started (by kernel_rfl) Try.func14
    (ChangeSpec.witness6 (enc := enc) (C := Try.checked) false ⟨#[], #[.agg #[.int .i64 0, .int .i64 0, .int .i64 0, .int .i64 0], .agg #[.int .u64 0, .int .u64 0, .int .u64 0, .int .u64 0, .int .u64 0, .int .u64 0, .int .u64 0, .int .u64 0, .int .u64 0, .int .u64 0, .int .u64 0, .int .u64 0]], []⟩ 8 (by kernel_rfl) (by kernel_rfl) (by kernel_rfl) (by kernel_rfl)) ?_
  intro W base args ds gs before hval0 hW hcnd _
  have hval : ∀ (j : Nat) t v, Try.f14.params[j]? = some t → args[j]? = some v → Value.okWide Try.prog W .any base t v := hval0
  have hW' := hW
  obtain ⟨p, q, hA0, hV, rfl, hfz, hnd⟩ := hW
  have hA : DataW.TrodAll enc Try.prog W 0 (fun _ => true) true Try.f14.params.toList args.toList ds p := hA0
  rw [Try.params14] at hA hval
  obtain ⟨v0, v1, d0, d1, q0, q1, rfl, rfl, rfl, h0, h1⟩ := trodAll_two hA
  obtain ⟨rfl, rfl⟩ := trodVars_none hV
  obtain ⟨a0, b0, c0, d0, rfl, rfl, rfl, wa0, wb0, wc0, wd0⟩ := open_seg (hval 0 52 v0 rfl rfl) h0
  obtain ⟨x1, y1, z1, rfl, rfl, rfl, tx1, ty1, tz1⟩ := open_point (hval 1 26 v1 rfl rfl) h1
  clear hA0 hval0
  refine (lawOverAt_any a0 b0 c0 d0 x1 y1 z1  tx1 ty1 tz1 W).mono fun e W' ⟨he, hB⟩ => ?_
  subst he
  exact ⟨_, rfl, _, _, _, [], [], [], hW', trodAll_mk1 (shut_bool Try.underlying4 _), trodAll_mk2 (shut_seg wa0 wb0 wc0 wd0) (shut_point x1 y1 z1), rfl, hB.frame _, fun h => by cases h⟩
theorem fnExactOverAt_j1 : (Rows.fnExactOverAtRow.inPlace == Try.pinned.checked.prog.inPlace 14) = true := by kernel_rfl
theorem fnExactOverAt_j2 : (Rows.fnExactOverAtRow.unfollowed == Try.pinned.checked.prog.unfollowed 14) = true := by kernel_rfl
theorem fnExactOverAt_j3 : (Rows.fnExactOverAtRow.recurses == Try.pinned.checked.prog.recurses 14) = true := by kernel_rfl
theorem fnExactOverAt_j4 : (Rows.fnExactOverAtRow.named == Try.pinned.checked.prog.varsNamed 14) = true := by kernel_rfl
theorem fnExactOverAt_closed : joinedFacts Try.pinned.checked.prog 14 Try.f14 Rows.fnExactOverAtSpec Rows.fnExactOverAtRow = true := by
  unfold joinedFacts
  rw [fnExactOverAt_j1, fnExactOverAt_j2, fnExactOverAt_j3, fnExactOverAt_j4, jn_laid, jn_maps, jn_enter, jn_heard]
  kernel_rfl
theorem fnExactOverAt_holds : Rows.FnExactOverAtSaid :=
  OpenClaim.holds_of_wide 14 Try.f14 rfl rfl rfl rfl rfl rfl rfl ⟨rfl, rfl, rfl, rfl, rfl⟩ rfl rfl rfl rfl rfl (by kernel_rfl) Try.func14 fnExactOverAt_closed
    (of_decide_eq_true (by kernel_rfl)) (by unfold Func.isWrapper; first | (rw [if_pos (by decide +kernel)]; kernel_rfl) | (rw [if_neg (by decide +kernel)]; exact ⟨rfl, rfl⟩))
    (fun os started H enc _ => fnExactOverAt_lifted os started H enc)
#print axioms fnExactOverAt_holds
end Go.Proofs.Ytckbhihdhcgaeaa
