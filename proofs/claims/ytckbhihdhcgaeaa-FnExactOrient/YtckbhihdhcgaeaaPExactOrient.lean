/- For every three points the law answers true: the program's turn of them is the model's; no condition. -/
import Derived.Test.YtckbhihdhcgaeaaLawOrient
import Derived.Test.YtckbhihdhcgaeaaBase11
import Derived.Test.YtckbhihdhcgaeaaBase12
namespace Go.Proofs.Ytckbhihdhcgaeaa
open Go.ChangeShapes Go.WideShapes Go.ChangeAt Go.RowKit Go.Joins
set_option maxRecDepth 100000 in
theorem fnExactOrient_lifted (os : Os) (started : os.Started) (H : Type) (enc : TypeId × Value → H) :
    ReturnsInHanded {} Try.checked os 6 .any (Rows.fnExactOrientSpec.pre6 enc Try.prog Try.f6 Rows.fnExactOrientRow.domain false) (Rows.fnExactOrientSpec.post enc Try.prog Try.f6 false true false false) := by
  refine returnsInHanded_of_change (C := Try.checked) Try.own started (by kernel_rfl) Try.func6
    (ChangeSpec.witness6 (enc := enc) (C := Try.checked) false ⟨#[], #[.agg #[.int .u64 0, .int .u64 0, .int .u64 0, .int .u64 0, .int .u64 0, .int .u64 0, .int .u64 0, .int .u64 0, .int .u64 0, .int .u64 0, .int .u64 0, .int .u64 0], .agg #[.int .u64 0, .int .u64 0, .int .u64 0, .int .u64 0, .int .u64 0, .int .u64 0, .int .u64 0, .int .u64 0, .int .u64 0, .int .u64 0, .int .u64 0, .int .u64 0], .agg #[.int .u64 0, .int .u64 0, .int .u64 0, .int .u64 0, .int .u64 0, .int .u64 0, .int .u64 0, .int .u64 0, .int .u64 0, .int .u64 0, .int .u64 0, .int .u64 0]], []⟩ 8 (by kernel_rfl) (by kernel_rfl) (by kernel_rfl) (by kernel_rfl)) ?_
  intro W base args ds gs before hval0 hW hcnd _
  have hval : ∀ (j : Nat) t v, Try.f6.params[j]? = some t → args[j]? = some v → Value.okWide Try.prog W .any base t v := hval0
  have hW' := hW
  obtain ⟨p, q, hA0, hV, rfl, hfz, hnd⟩ := hW
  have hA : DataW.TrodAll enc Try.prog W 0 (fun _ => true) true Try.f6.params.toList args.toList ds p := hA0
  rw [Try.params6] at hA hval
  obtain ⟨v0, v1, v2, d0, d1, d2, q0, q1, q2, rfl, rfl, rfl, h0, h1, h2⟩ := trodAll_three hA
  obtain ⟨rfl, rfl⟩ := trodVars_none hV
  obtain ⟨x0, y0, z0, rfl, rfl, rfl, tx0, ty0, tz0⟩ := open_point (hval 0 26 v0 rfl rfl) h0
  obtain ⟨x1, y1, z1, rfl, rfl, rfl, tx1, ty1, tz1⟩ := open_point (hval 1 26 v1 rfl rfl) h1
  obtain ⟨x2, y2, z2, rfl, rfl, rfl, tx2, ty2, tz2⟩ := open_point (hval 2 26 v2 rfl rfl) h2
  clear hA0 hval0
  refine (lawOrient_any x0 y0 z0 x1 y1 z1 x2 y2 z2 tx0 ty0 tz0 tx1 ty1 tz1 tx2 ty2 tz2 W).mono fun e W' ⟨he, hB⟩ => ?_
  subst he
  exact ⟨_, rfl, _, _, _, [], [], [], hW', trodAll_mk1 (shut_bool Try.underlying4 _), trodAll_mk3 (shut_point x0 y0 z0) (shut_point x1 y1 z1) (shut_point x2 y2 z2), rfl, hB.frame _, fun h => by cases h⟩
theorem fnExactOrient_j1 : (Rows.fnExactOrientRow.inPlace == Try.pinned.checked.prog.inPlace 6) = true := by kernel_rfl
theorem fnExactOrient_j2 : (Rows.fnExactOrientRow.unfollowed == Try.pinned.checked.prog.unfollowed 6) = true := by kernel_rfl
theorem fnExactOrient_j3 : (Rows.fnExactOrientRow.recurses == Try.pinned.checked.prog.recurses 6) = true := by kernel_rfl
theorem fnExactOrient_j4 : (Rows.fnExactOrientRow.named == Try.pinned.checked.prog.varsNamed 6) = true := by kernel_rfl
theorem fnExactOrient_closed : joinedFacts Try.pinned.checked.prog 6 Try.f6 Rows.fnExactOrientSpec Rows.fnExactOrientRow = true := by
  unfold joinedFacts
  rw [fnExactOrient_j1, fnExactOrient_j2, fnExactOrient_j3, fnExactOrient_j4, jn_laid, jn_maps, jn_enter, jn_heard]
  kernel_rfl
theorem fnExactOrient_holds : Rows.FnExactOrientSaid :=
  OpenClaim.holds_of_wide 6 Try.f6 rfl rfl rfl rfl rfl rfl rfl ⟨rfl, rfl, rfl, rfl, rfl⟩ rfl rfl rfl rfl rfl (by kernel_rfl) Try.func6 fnExactOrient_closed
    (of_decide_eq_true (by kernel_rfl)) (by unfold Func.isWrapper; first | (rw [if_pos (by decide +kernel)]; kernel_rfl) | (rw [if_neg (by decide +kernel)]; exact ⟨rfl, rfl⟩))
    (fun os started H enc _ => fnExactOrient_lifted os started H enc)
#print axioms fnExactOrient_holds
end Go.Proofs.Ytckbhihdhcgaeaa
