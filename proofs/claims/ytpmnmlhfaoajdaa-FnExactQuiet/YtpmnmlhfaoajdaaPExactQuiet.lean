/- For every row of segments the law answers true: the program's word on whether they are quiet is the model's, and it writes into none; no condition. -/
import Derived.Test.YtpmnmlhfaoajdaaQt9
namespace Go.Proofs.Ytpmnmlhfaoajdaa
open Go.ChangeShapes Go.WideShapes Go.ChangeAt Go.RowKit Go.Joins
set_option maxRecDepth 100000 in
theorem fnExactQuiet_lifted (os : Os) (started : os.Started) (H : Type) (enc : TypeId × Value → H) :
    ReturnsInHanded {} Try.checked os 4 .any (Rows.fnExactQuietSpec.pre6 enc Try.prog Try.f4 Rows.fnExactQuietRow.domain false) (Rows.fnExactQuietSpec.post enc Try.prog Try.f4 false true false false) := by
  refine returnsInHanded_of_change (C := Try.checked) Try.own started (by kernel_rfl) Try.func4
    (ChangeSpec.witness6 (enc := enc) (C := Try.checked) false ⟨#[], #[.slice none 0 0], []⟩ 8 (by kernel_rfl) (by kernel_rfl) (by kernel_rfl) (by kernel_rfl)) ?_
  intro W base args ds gs before hval0 hW hcnd _
  have hval : ∀ (j : Nat) t v, Try.f4.params[j]? = some t → args[j]? = some v → Value.okWide Try.prog W .any base t v := hval0
  have hW' := hW
  obtain ⟨p, q, hA0, hV, rfl, hfz, hnd⟩ := hW
  have hA : DataW.TrodAll enc Try.prog W 0 (fun _ => true) true Try.f4.params.toList args.toList ds p := hA0
  rw [Try.params4] at hA hval
  obtain ⟨v0, d0, rfl, rfl, h0⟩ := trodAll_one hA
  obtain ⟨rfl, rfl⟩ := trodVars_none hV
  clear hA0 hval0
  simp only [List.append_nil] at hW'
  have hltA := fun x hx => hW'.lt x hx
  have hlt0 : ∀ x ∈ p, x.block < W.heap.size := fun x hx => hltA x (hx)
  have again0 : ∀ W' : World, Below W.heap.size W W' → DataW.Trod enc Try.prog W' 0 (fun b => decide (b < W.heap.size)) true 22 v0 d0 p := fun W' hB =>
    Below.trod Try.laidOut (by kernel_rfl) (of_decide_eq_true (by kernel_rfl)) h0 hB hlt0
  obtain ⟨ao0, n0, cap0, q0, rfl, hn0, hS0⟩ := open_segs (hval 0 22 v0 rfl rfl) h0 (hlt0)
  refine (lawQuiet_any ao0 n0 cap0 q0 hn0 W (fun _ => hS0)).mono fun e W' ⟨he, hB⟩ => ?_
  subst he
  exact ⟨_, rfl, ⟨_, _, _, [], _, [], hW', trodAll_mk1 (shut_bool Try.underlying4 _), trodAll_mk1 (again0 W' hB), rfl, hB.frame _, fun h => by cases h⟩⟩
theorem fnExactQuiet_j1 : (Rows.fnExactQuietRow.inPlace == Try.pinned.checked.prog.inPlace 4) = true := by kernel_rfl
theorem fnExactQuiet_j2 : (Rows.fnExactQuietRow.unfollowed == Try.pinned.checked.prog.unfollowed 4) = true := by kernel_rfl
theorem fnExactQuiet_j3 : (Rows.fnExactQuietRow.recurses == Try.pinned.checked.prog.recurses 4) = true := by kernel_rfl
theorem fnExactQuiet_j4 : (Rows.fnExactQuietRow.named == Try.pinned.checked.prog.varsNamed 4) = true := by kernel_rfl
theorem fnExactQuiet_closed : joinedFacts Try.pinned.checked.prog 4 Try.f4 Rows.fnExactQuietSpec Rows.fnExactQuietRow = true := by
  unfold joinedFacts
  rw [fnExactQuiet_j1, fnExactQuiet_j2, fnExactQuiet_j3, fnExactQuiet_j4, jn_laid, jn_maps, jn_enter, jn_heard]
  kernel_rfl
theorem fnExactQuiet_holds : Rows.FnExactQuietSaid :=
  OpenClaim.holds_of_wide 4 Try.f4 rfl rfl rfl rfl rfl rfl rfl ⟨rfl, rfl, rfl, rfl, rfl⟩ rfl rfl rfl rfl rfl (by kernel_rfl) Try.func4 fnExactQuiet_closed
    (of_decide_eq_true (by kernel_rfl)) (by unfold Func.isWrapper; first | (rw [if_pos (by decide +kernel)]; kernel_rfl) | (rw [if_neg (by decide +kernel)]; exact ⟨rfl, rfl⟩))
    (fun os started H enc _ => fnExactQuiet_lifted os started H enc)
#print axioms fnExactQuiet_holds
end Go.Proofs.Ytpmnmlhfaoajdaa
