/- For every segment and point the law answers true: the program's word on whether the point lies on the segment is the model's; no condition. -/
import Derived.Test.YtckbhihdhcgaeaaLawOnSeg
import Derived.Test.YtckbhihdhcgaeaaSgO
import Derived.Test.YtckbhihdhcgaeaaBase12
namespace Go.Proofs.Ytckbhihdhcgaeaa
open Go.ChangeShapes Go.WideShapes Go.ChangeAt Go.RowKit Go.Joins
set_option maxRecDepth 100000 in
theorem fnExactOnSeg_lifted (os : Os) (started : os.Started) (H : Type) (enc : TypeId × Value → H) :
    ReturnsInHanded {} Try.checked os 11 .any (Rows.fnExactOnSegSpec.pre6 enc Try.prog Try.f11 Rows.fnExactOnSegRow.domain false) (Rows.fnExactOnSegSpec.post enc Try.prog Try.f11 false true false false) := by
  refine returnsInHanded_of_change (C := Try.checked) Try.own started (by kernel_rfl) Try.func11
    (ChangeSpec.witness6 (enc := enc) (C := Try.checked) false ⟨#[], #[.agg #[.int .i64 0, .int .i64 0, .int .i64 0, .int .i64 0], .agg #[.int .u64 0, .int .u64 0, .int .u64 0, .int .u64 0, .int .u64 0, .int .u64 0, .int .u64 0, .int .u64 0, .int .u64 0, .int .u64 0, .int .u64 0, .int .u64 0]], []⟩ 8 (by kernel_rfl) (by kernel_rfl) (by kernel_rfl) (by kernel_rfl)) ?_
  intro W base args ds gs before hval0 hW hcnd _
  have hval : ∀ (j : Nat) t v, Try.f11.params[j]? = some t → args[j]? = some v → Value.okWide Try.prog W .any base t v := hval0
  have hW' := hW
  obtain ⟨p, q, hA0, hV, rfl, hfz, hnd⟩ := hW
  have hA : DataW.TrodAll enc Try.prog W 0 (fun _ => true) true Try.f11.params.toList args.toList ds p := hA0
  rw [Try.params11] at hA hval
  obtain ⟨v0, v1, d0, d1, q0, q1, rfl, rfl, rfl, h0, h1⟩ := trodAll_two hA
  obtain ⟨rfl, rfl⟩ := trodVars_none hV
  obtain ⟨a0, b0, c0, d0, rfl, rfl, rfl, wa0, wb0, wc0, wd0⟩ := open_seg (hval 0 52 v0 rfl rfl) h0
  obtain ⟨x1, y1, z1, rfl, rfl, rfl, tx1, ty1, tz1⟩ := open_point (hval 1 26 v1 rfl rfl) h1
  clear hA0 hval0
  refine (lawOnSeg_any a0 b0 c0 d0 x1 y1 z1 (int_of_wf wa0) (int_of_wf wb0) (int_of_wf wc0) (int_of_wf wd0) tx1 ty1 tz1 W).mono fun e W' ⟨he, hB⟩ => ?_
  subst he
  exact ⟨_, rfl, _, _, _, [], [], [], hW', trodAll_mk1 (shut_bool Try.underlying4 _), trodAll_mk2 (shut_seg wa0 wb0 wc0 wd0) (shut_point x1 y1 z1), rfl, hB.frame _, fun h => by cases h⟩
theorem fnExactOnSeg_j1 : (Rows.fnExactOnSegRow.inPlace == Try.pinned.checked.prog.inPlace 11) = true := by kernel_rfl
theorem fnExactOnSeg_j2 : (Rows.fnExactOnSegRow.unfollowed == Try.pinned.checked.prog.unfollowed 11) = true := by kernel_rfl
theorem fnExactOnSeg_j3 : (Rows.fnExactOnSegRow.recurses == Try.pinned.checked.prog.recurses 11) = true := by kernel_rfl
theorem fnExactOnSeg_j4 : (Rows.fnExactOnSegRow.named == Try.pinned.checked.prog.varsNamed 11) = true := by kernel_rfl
theorem fnExactOnSeg_closed : joinedFacts Try.pinned.checked.prog 11 Try.f11 Rows.fnExactOnSegSpec Rows.fnExactOnSegRow = true := by
  unfold joinedFacts
  rw [fnExactOnSeg_j1, fnExactOnSeg_j2, fnExactOnSeg_j3, fnExactOnSeg_j4, jn_laid, jn_maps, jn_enter, jn_heard]
  kernel_rfl
theorem fnExactOnSeg_holds : Rows.FnExactOnSegSaid :=
  OpenClaim.holds_of_wide 11 Try.f11 rfl rfl rfl rfl rfl rfl rfl ⟨rfl, rfl, rfl, rfl, rfl⟩ rfl rfl rfl rfl rfl (by kernel_rfl) Try.func11 fnExactOnSeg_closed
    (of_decide_eq_true (by kernel_rfl)) (by unfold Func.isWrapper; first | (rw [if_pos (by decide +kernel)]; kernel_rfl) | (rw [if_neg (by decide +kernel)]; exact ⟨rfl, rfl⟩))
    (fun os started H enc _ => fnExactOnSeg_lifted os started H enc)
#print axioms fnExactOnSeg_holds
end Go.Proofs.Ytckbhihdhcgaeaa
