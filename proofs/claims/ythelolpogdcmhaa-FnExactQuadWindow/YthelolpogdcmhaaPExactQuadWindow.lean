/- For every tree of blocks and every two spots the law answers true: the numbers that the program tells of what meets the window, and whether it tells any, are those of the model; it writes into no argument, and the row that it answers is its own; no condition. -/
import Derived.Test.YthelolpogdcmhaaPart15
namespace Go.Proofs.Ythelolpogdcmhaa
open Go.ChangeShapes Go.WideShapes Go.ChangeAt Go.RowKit Go.Joins
set_option maxRecDepth 100000 in
theorem fnExactQuadWindow_lifted (os : Os) (started : os.Started) (H : Type) (enc : TypeId × Value → H) :
    ReturnsInHanded {} Try.checked os 3 .any (Rows.fnExactQuadWindowSpec.pre6 enc Try.prog Try.f3 Rows.fnExactQuadWindowRow.domain false) (Rows.fnExactQuadWindowSpec.post enc Try.prog Try.f3 false true false false) := by
  refine returnsInHanded_of_change (C := Try.checked) Try.own started (by kernel_rfl) Try.func3
    (ChangeSpec.witness6 (enc := enc) (C := Try.checked) false ⟨#[], #[.agg #[.int .i64 0, .int .i64 0, .slice none 0 0, .slice none 0 0], .agg #[.int .i64 0, .int .i64 0], .agg #[.int .i64 0, .int .i64 0]], []⟩ 8 (by kernel_rfl) (by kernel_rfl) (by kernel_rfl) (by kernel_rfl)) ?_
  intro W base args ds gs before hval0 hW hcnd _
  have hval : ∀ (j : Nat) t v, Try.f3.params[j]? = some t → args[j]? = some v → Value.okWide Try.prog W .any base t v := hval0
  have hW' := hW
  obtain ⟨p, q, hA0, hV, rfl, hfz, hnd⟩ := hW
  have hA : DataW.TrodAll enc Try.prog W 0 (fun _ => true) true Try.f3.params.toList args.toList ds p := hA0
  rw [Try.params3] at hA hval
  obtain ⟨v0, v1, v2, d0, d1, d2, p0, p1, p2, rfl, rfl, rfl, h0, h1, h2⟩ := trodAll_three hA
  obtain ⟨rfl, rfl⟩ := trodVars_none hV
  clear hA0 hval0
  simp only [List.append_nil] at hW'
  have hltA := fun x hx => hW'.lt x hx
  have hlt0 : ∀ x ∈ p0, x.block < W.heap.size := fun x hx => hltA x (List.mem_append_left _ (List.mem_append_left _ hx))
  have hlt1 : ∀ x ∈ p1, x.block < W.heap.size := fun x hx => hltA x (List.mem_append_left _ (List.mem_append_right _ hx))
  have hlt2 : ∀ x ∈ p2, x.block < W.heap.size := fun x hx => hltA x (List.mem_append_right _ hx)
  have again0 : ∀ W' : World, Below W.heap.size W W' → DataW.Trod enc Try.prog W' 0 (fun b => decide (b < W.heap.size)) true 25 v0 d0 p0 := fun W' hB =>
    Below.trod Try.laidOut (by kernel_rfl) (of_decide_eq_true (by kernel_rfl)) h0 hB hlt0
  have again1 : ∀ W' : World, Below W.heap.size W W' → DataW.Trod enc Try.prog W' 0 (fun b => decide (b < W.heap.size)) true 27 v1 d1 p1 := fun W' hB =>
    Below.trod Try.laidOut (by kernel_rfl) (of_decide_eq_true (by kernel_rfl)) h1 hB hlt1
  have again2 : ∀ W' : World, Below W.heap.size W W' → DataW.Trod enc Try.prog W' 0 (fun b => decide (b < W.heap.size)) true 27 v2 d2 p2 := fun W' hB =>
    Below.trod Try.laidOut (by kernel_rfl) (of_decide_eq_true (by kernel_rfl)) h2 hB hlt2
  obtain ⟨Q0, m0, e0, ao0, bo0, cap0, dap0, A0, off0, so0, rfl, hm0, hN0, hL0, hbo0, hS0, hBl0⟩ := open_quad (hval 0 25 v0 rfl rfl) h0 (hlt0)
  obtain ⟨x1, y1, rfl, rfl, rfl, wx1, wy1⟩ := open_spot (hval 1 27 v1 rfl rfl) h1
  obtain ⟨x2, y2, rfl, rfl, rfl, wx2, wy2⟩ := open_spot (hval 2 27 v2 rfl rfl) h2
  refine (lawQuadWindow_any Q0 ao0 bo0 cap0 dap0 A0 off0 so0 m0 e0 hm0 hN0 hL0 hbo0 x1 y1 x2 y2 W hS0 hBl0).mono fun e W' ⟨he, hB⟩ => ?_
  subst he
  exact ⟨_, rfl, ⟨_, _, _, [], _, [], hW', trodAll_mk1 (shut_bool Try.underlying4 _), trodAll_mk3 (again0 W' hB) (again1 W' hB) (again2 W' hB), rfl, hB.frame _, fun h => by cases h⟩⟩
theorem fnExactQuadWindow_j1 : (Rows.fnExactQuadWindowRow.inPlace == Try.pinned.checked.prog.inPlace 3) = true := by kernel_rfl
theorem fnExactQuadWindow_j2 : (Rows.fnExactQuadWindowRow.unfollowed == Try.pinned.checked.prog.unfollowed 3) = true := by kernel_rfl
theorem fnExactQuadWindow_j3 : (Rows.fnExactQuadWindowRow.recurses == Try.pinned.checked.prog.recurses 3) = true := by kernel_rfl
theorem fnExactQuadWindow_j4 : (Rows.fnExactQuadWindowRow.named == Try.pinned.checked.prog.varsNamed 3) = true := by kernel_rfl
theorem fnExactQuadWindow_closed : joinedFacts Try.pinned.checked.prog 3 Try.f3 Rows.fnExactQuadWindowSpec Rows.fnExactQuadWindowRow = true := by
  unfold joinedFacts
  rw [fnExactQuadWindow_j1, fnExactQuadWindow_j2, fnExactQuadWindow_j3, fnExactQuadWindow_j4, jn_laid, jn_maps, jn_enter, jn_heard]
  kernel_rfl
theorem fnExactQuadWindow_holds : Rows.FnExactQuadWindowSaid :=
  OpenClaim.holds_of_wide 3 Try.f3 rfl rfl rfl rfl rfl rfl rfl ⟨rfl, rfl, rfl, rfl, rfl⟩ rfl rfl rfl rfl rfl (by kernel_rfl) Try.func3 fnExactQuadWindow_closed
    (of_decide_eq_true (by kernel_rfl)) (by unfold Func.isWrapper; first | (rw [if_pos (by decide +kernel)]; kernel_rfl) | (rw [if_neg (by decide +kernel)]; exact ⟨rfl, rfl⟩))
    (fun os started H enc _ => fnExactQuadWindow_lifted os started H enc)
#print axioms fnExactQuadWindow_holds
end Go.Proofs.Ythelolpogdcmhaa
