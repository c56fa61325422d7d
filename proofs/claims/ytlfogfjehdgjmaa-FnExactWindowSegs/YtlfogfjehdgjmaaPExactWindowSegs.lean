/- For every row of segments and every two spots the law answers true: what the program tells of the segments that meet the box is what the model tells; the answer owns its memory; no condition. -/
import Derived.Test.YtlfogfjehdgjmaaPart2
namespace Go.Proofs.Ytlfogfjehdgjmaa
open Go.ChangeShapes Go.WideShapes Go.ChangeAt Go.RowKit Go.Joins
set_option maxRecDepth 100000 in
theorem fnExactWindowSegs_lifted (os : Os) (started : os.Started) (H : Type) (enc : TypeId × Value → H) :
    ReturnsInHanded {} Try.checked os 10 .any (Rows.fnExactWindowSegsSpec.pre6 enc Try.prog Try.f10 Rows.fnExactWindowSegsRow.domain false) (Rows.fnExactWindowSegsSpec.post enc Try.prog Try.f10 false true false false) := by
  refine returnsInHanded_of_change (C := Try.checked) Try.own started (by kernel_rfl) Try.func10
    (ChangeSpec.witness6 (enc := enc) (C := Try.checked) false ⟨#[], #[.slice none 0 0, .agg #[.int .i64 0, .int .i64 0], .agg #[.int .i64 0, .int .i64 0]], []⟩ 8 (by kernel_rfl) (by kernel_rfl) (by kernel_rfl) (by kernel_rfl)) ?_
  intro W base args ds gs before hval0 hW hcnd _
  have hval : ∀ (j : Nat) t v, Try.f10.params[j]? = some t → args[j]? = some v → Value.okWide Try.prog W .any base t v := hval0
  have hW' := hW
  obtain ⟨p, q, hA0, hV, rfl, hfz, hnd⟩ := hW
  have hA : DataW.TrodAll enc Try.prog W 0 (fun _ => true) true Try.f10.params.toList args.toList ds p := hA0
  rw [Try.params10] at hA hval
  obtain ⟨v0, v1, v2, d0, d1, d2, p0, p1, p2, rfl, rfl, rfl, h0, h1, h2⟩ := trodAll_three hA
  obtain ⟨rfl, rfl⟩ := trodVars_none hV
  obtain ⟨x1, x2, rfl, rfl, rfl, w1, w2⟩ := open_spot (hval 1 45 v1 rfl rfl) h1
  obtain ⟨x3, x4, rfl, rfl, rfl, w3, w4⟩ := open_spot (hval 2 45 v2 rfl rfl) h2
  have h0k := h0
  obtain ⟨fuel, hf⟩ := h0
  clear hA0 hval0
  simp only [List.append_nil] at hW'
  have hlt : ∀ x ∈ p0, x.block < W.heap.size := fun x hx => by simpa using hW'.lt x hx
  have again : ∀ W' : World, Below W.heap.size W W' → DataW.Trod enc Try.prog W' 0 (fun b => decide (b < W.heap.size)) true 43 v0 d0 p0 := fun W' hB =>
    Below.trod Try.laidOut (by kernel_rfl) (of_decide_eq_true (by kernel_rfl)) h0k hB hlt
  obtain ⟨a0, len, cap, rfl⟩ := okWide_slice Try.underlying43 (hval 0 43 v0 rfl rfl)
  rcases Go.Deep.open_slice Try.underlying43 hf with ⟨hcs, hx⟩ | ⟨a, len', cap', m, n, D, Pl, hcs, _, hl, hm, hz, hx, hel⟩
  · simp [Value.cells] at hcs
    obtain ⟨rfl, rfl, rfl⟩ := hcs
    simp only [Prod.mk.injEq] at hx
    obtain ⟨rfl, rfl⟩ := hx
    refine (lawWindow_any none 0 0 (fun _ => 0) x1 x2 x3 x4 (by decide) W (fun _ i hi => by omega)).mono fun e W' ⟨he, hB⟩ => ?_
    subst he
    exact ⟨_, rfl, ⟨_, _, _, [], _, [], hW', trodAll_mk1 (shut_bool Try.underlying4 _), trodAll_mk3 (again W' hB) (shut_spot w1 w2) (shut_spot w3 w4), rfl, hB.frame _, fun h => by cases h⟩⟩
  · simp [Value.cells] at hcs
    obtain ⟨rfl, rfl, rfl⟩ := hcs
    simp only [Prod.mk.injEq] at hx
    obtain ⟨rfl, rfl⟩ := hx
    simp only [if_true] at hz
    obtain ⟨x, hS⟩ := segs_of (len := len) (by omega) hel (fun y hy => hlt y (List.mem_append_left _ hy))
    refine (lawWindow_any (some a) len cap x x1 x2 x3 x4 (by have := hm; simp [maxLen] at this; omega) W (fun _ => hS)).mono fun e W' ⟨he, hB⟩ => ?_
    subst he
    exact ⟨_, rfl, ⟨_, _, _, [], _, [], hW', trodAll_mk1 (shut_bool Try.underlying4 _), trodAll_mk3 (again W' hB) (shut_spot w1 w2) (shut_spot w3 w4), rfl, hB.frame _, fun h => by cases h⟩⟩
theorem fnExactWindowSegs_j1 : (Rows.fnExactWindowSegsRow.inPlace == Try.pinned.checked.prog.inPlace 10) = true := by kernel_rfl
theorem fnExactWindowSegs_j2 : (Rows.fnExactWindowSegsRow.unfollowed == Try.pinned.checked.prog.unfollowed 10) = true := by kernel_rfl
theorem fnExactWindowSegs_j3 : (Rows.fnExactWindowSegsRow.recurses == Try.pinned.checked.prog.recurses 10) = true := by kernel_rfl
theorem fnExactWindowSegs_j4 : (Rows.fnExactWindowSegsRow.named == Try.pinned.checked.prog.varsNamed 10) = true := by kernel_rfl
theorem fnExactWindowSegs_closed : joinedFacts Try.pinned.checked.prog 10 Try.f10 Rows.fnExactWindowSegsSpec Rows.fnExactWindowSegsRow = true := by
  unfold joinedFacts
  rw [fnExactWindowSegs_j1, fnExactWindowSegs_j2, fnExactWindowSegs_j3, fnExactWindowSegs_j4, jn_laid, jn_maps, jn_enter, jn_heard]
  kernel_rfl
theorem fnExactWindowSegs_holds : Rows.FnExactWindowSegsSaid :=
  OpenClaim.holds_of_wide 10 Try.f10 rfl rfl rfl rfl rfl rfl rfl ⟨rfl, rfl, rfl, rfl, rfl⟩ rfl rfl rfl rfl rfl (by kernel_rfl) Try.func10 fnExactWindowSegs_closed
    (of_decide_eq_true (by kernel_rfl)) (by unfold Func.isWrapper; first | (rw [if_pos (by decide +kernel)]; kernel_rfl) | (rw [if_neg (by decide +kernel)]; exact ⟨rfl, rfl⟩))
    (fun os started H enc _ => fnExactWindowSegs_lifted os started H enc)
#print axioms fnExactWindowSegs_holds
end Go.Proofs.Ytlfogfjehdgjmaa
