/- For every tree, every number the law answers true: the tree that the program tells, without the segment of that number, is the one that the model tells, and it is refused alike; it writes into no argument, and its answer owns its memory; no condition. -/
import Derived.Test.YtjhapeidafbncaaPart15
import Derived.Test.YtjhapeidafbncaaPart16
namespace Go.Proofs.Ytjhapeidafbncaa
open Go.ChangeShapes Go.WideShapes Go.ChangeAt Go.RowKit Go.Joins
set_option maxRecDepth 100000 in
theorem fnExactQuadCut_lifted (os : Os) (started : os.Started) (H : Type) (enc : TypeId × Value → H) :
    ReturnsInHanded {} Try.checked os 4 .any (Rows.fnExactQuadCutSpec.pre6 enc Try.prog Try.f4 Rows.fnExactQuadCutRow.domain false) (Rows.fnExactQuadCutSpec.post enc Try.prog Try.f4 false true false false) := by
  refine returnsInHanded_of_change (C := Try.checked) Try.own started (by kernel_rfl) Try.func4
    (ChangeSpec.witness6 (enc := enc) (C := Try.checked) false ⟨#[], #[.agg #[.int .i64 0, .int .i64 0, .slice none 0 0, .slice none 0 0], .int .i64 0], []⟩ 8 (by kernel_rfl) (by kernel_rfl) (by kernel_rfl) (by kernel_rfl)) ?_
  intro W base args ds gs before hval0 hW hcnd _
  have hval : ∀ (j : Nat) t v, Try.f4.params[j]? = some t → args[j]? = some v → Value.okWide Try.prog W .any base t v := hval0
  have hW' := hW
  obtain ⟨p, q, hA0, hV, rfl, hfz, hnd⟩ := hW
  have hA : DataW.TrodAll enc Try.prog W 0 (fun _ => true) true Try.f4.params.toList args.toList ds p := hA0
  rw [Try.params4] at hA hval
  obtain ⟨v0, v1, d0, d1, p0, p1, rfl, rfl, rfl, h0, h1⟩ := trodAll_two hA
  obtain ⟨rfl, rfl⟩ := trodVars_none hV
  clear hA0 hval0
  simp only [List.append_nil] at hW'
  have hltA := fun x hx => hW'.lt x hx
  have hlt0 : ∀ x ∈ p0, x.block < W.heap.size := fun x hx => hltA x (List.mem_append_left _ hx)
  have hlt1 : ∀ x ∈ p1, x.block < W.heap.size := fun x hx => hltA x (List.mem_append_right _ hx)
  have again0 : ∀ W' : World, Below W.heap.size W W' → DataW.Trod enc Try.prog W' 0 (fun b => decide (b < W.heap.size)) true 25 v0 d0 p0 := fun W' hB =>
    Below.trod Try.laidOut (by kernel_rfl) (of_decide_eq_true (by kernel_rfl)) h0 hB hlt0
  have again1 : ∀ W' : World, Below W.heap.size W W' → DataW.Trod enc Try.prog W' 0 (fun b => decide (b < W.heap.size)) true 2 v1 d1 p1 := fun W' hB =>
    Below.trod Try.laidOut (by kernel_rfl) (of_decide_eq_true (by kernel_rfl)) h1 hB hlt1
  obtain ⟨Q0, m0, e0, ao0, bo0, cap0, dap0, A0, off0, so0, rfl, hm0, hN0, hL0, hbo0, hS0, hBl0⟩ := open_quad (hval 0 25 v0 rfl rfl) h0 (hlt0)
  obtain ⟨x1, rfl, rfl, rfl, wx1⟩ := open_int Try.underlying2 (hval 1 2 v1 rfl rfl) h1
  refine (lawQuadCut_any Q0 ao0 bo0 cap0 dap0 A0 off0 so0 m0 e0 hm0 hN0 hL0 hbo0 x1 W hS0 hBl0).mono fun e W' ⟨he, hB⟩ => ?_
  subst he
  exact ⟨_, rfl, ⟨_, _, _, [], _, [], hW', trodAll_mk1 (shut_bool Try.underlying4 _), trodAll_mk2 (again0 W' hB) (again1 W' hB), rfl, hB.frame _, fun h => by cases h⟩⟩
theorem fnExactQuadCut_j1 : (Rows.fnExactQuadCutRow.inPlace == Try.pinned.checked.prog.inPlace 4) = true := by kernel_rfl
theorem fnExactQuadCut_j2 : (Rows.fnExactQuadCutRow.unfollowed == Try.pinned.checked.prog.unfollowed 4) = true := by kernel_rfl
theorem fnExactQuadCut_j3 : (Rows.fnExactQuadCutRow.recurses == Try.pinned.checked.prog.recurses 4) = true := by kernel_rfl
theorem fnExactQuadCut_j4 : (Rows.fnExactQuadCutRow.named == Try.pinned.checked.prog.varsNamed 4) = true := by kernel_rfl
theorem fnExactQuadCut_closed : joinedFacts Try.pinned.checked.prog 4 Try.f4 Rows.fnExactQuadCutSpec Rows.fnExactQuadCutRow = true := by
  unfold joinedFacts
  rw [fnExactQuadCut_j1, fnExactQuadCut_j2, fnExactQuadCut_j3, fnExactQuadCut_j4, jn_laid, jn_maps, jn_enter, jn_heard]
  kernel_rfl
theorem fnExactQuadCut_holds : Rows.FnExactQuadCutSaid :=
  OpenClaim.holds_of_wide 4 Try.f4 rfl rfl rfl rfl rfl rfl rfl ⟨rfl, rfl, rfl, rfl, rfl⟩ rfl rfl rfl rfl rfl (by kernel_rfl) Try.func4 fnExactQuadCut_closed
    (of_decide_eq_true (by kernel_rfl)) (by unfold Func.isWrapper; first | (rw [if_pos (by decide +kernel)]; kernel_rfl) | (rw [if_neg (by decide +kernel)]; exact ⟨rfl, rfl⟩))
    (fun os started H enc _ => fnExactQuadCut_lifted os started H enc)
#print axioms fnExactQuadCut_holds
end Go.Proofs.Ytjhapeidafbncaa
