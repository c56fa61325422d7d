/- For every row of rings and place the law answers true: the program's word on within how many others the ring lies is the model's, and it writes into none; no condition. -/
import Derived.Test.YtibbjjlapglndaaGreatDp17
namespace Go.Proofs.YtibbjjlapglndaaGreat
open Go.ChangeShapes Go.WideShapes Go.ChangeAt Go.RowKit Go.Joins
set_option maxRecDepth 100000 in
theorem fnExactDepthOf_lifted (os : Os) (started : os.Started) (H : Type) (enc : TypeId × Value → H) :
    ReturnsInHanded {} Tryz.checked os 7 .any (Rows.fnExactDepthOfSpec.pre6 enc Tryz.prog Tryz.f7 Rows.fnExactDepthOfRow.domain false) (Rows.fnExactDepthOfSpec.post enc Tryz.prog Tryz.f7 false true false false) := by
  refine returnsInHanded_of_change (C := Tryz.checked) Tryz.own started (by kernel_rfl) Tryz.func7
    (ChangeSpec.witness6 (enc := enc) (C := Tryz.checked) false ⟨#[], #[.slice none 0 0, .int .i64 0], []⟩ 8 (by kernel_rfl) (by kernel_rfl) (by kernel_rfl) (by kernel_rfl)) ?_
  intro W base args ds gs before hval0 hW hcnd _
  have hval : ∀ (j : Nat) t v, Tryz.f7.params[j]? = some t → args[j]? = some v → Value.okWide Tryz.prog W .any base t v := hval0
  have hW' := hW
  obtain ⟨p, q, hA0, hV, rfl, hfz, hnd⟩ := hW
  have hA : DataW.TrodAll enc Tryz.prog W 0 (fun _ => true) true Tryz.f7.params.toList args.toList ds p := hA0
  rw [Tryz.params7] at hA hval
  obtain ⟨v0, v1, d0, d1, p0, p1, rfl, rfl, rfl, h0, h1⟩ := trodAll_two hA
  obtain ⟨rfl, rfl⟩ := trodVars_none hV
  clear hA0 hval0
  simp only [List.append_nil] at hW'
  have hltA := fun x hx => hW'.lt x hx
  have hlt0 : ∀ x ∈ p0, x.block < W.heap.size := fun x hx => hltA x (List.mem_append_left _ hx)
  have hlt1 : ∀ x ∈ p1, x.block < W.heap.size := fun x hx => hltA x (List.mem_append_right _ hx)
  have again0 : ∀ W' : World, Below W.heap.size W W' → DataW.Trod enc Tryz.prog W' 0 (fun b => decide (b < W.heap.size)) true 43 v0 d0 p0 := fun W' hB =>
    Below.trod Tryz.laidOut (by kernel_rfl) (of_decide_eq_true (by kernel_rfl)) h0 hB hlt0
  have again1 : ∀ W' : World, Below W.heap.size W W' → DataW.Trod enc Tryz.prog W' 0 (fun b => decide (b < W.heap.size)) true 2 v1 d1 p1 := fun W' hB =>
    Below.trod Tryz.laidOut (by kernel_rfl) (of_decide_eq_true (by kernel_rfl)) h1 hB hlt1
  obtain ⟨ao0, n0, cap0, S0, L0, q0, rfl, hn0, hL0, hS0⟩ := open_rings (hval 0 43 v0 rfl rfl) h0 (hlt0)
  obtain ⟨x1, rfl, rfl, rfl, wx1⟩ := open_int Tryz.underlying2 (hval 1 2 v1 rfl rfl) h1
  refine (lawDepthOf_any ao0 n0 cap0 S0 L0 q0 x1 (int_of_wf wx1).1 (int_of_wf wx1).2 hn0 hL0 W hS0).mono fun e W' ⟨he, hB⟩ => ?_
  subst he
  exact ⟨_, rfl, ⟨_, _, _, [], _, [], hW', trodAll_mk1 (shut_bool Tryz.underlying4 _), trodAll_mk2 (again0 W' hB) (again1 W' hB), rfl, hB.frame _, fun h => by cases h⟩⟩
theorem fnExactDepthOf_j1 : (Rows.fnExactDepthOfRow.inPlace == Tryz.pinned.checked.prog.inPlace 7) = true := by kernel_rfl
theorem fnExactDepthOf_j2 : (Rows.fnExactDepthOfRow.unfollowed == Tryz.pinned.checked.prog.unfollowed 7) = true := by kernel_rfl
theorem fnExactDepthOf_j3 : (Rows.fnExactDepthOfRow.recurses == Tryz.pinned.checked.prog.recurses 7) = true := by kernel_rfl
theorem fnExactDepthOf_j4 : (Rows.fnExactDepthOfRow.named == Tryz.pinned.checked.prog.varsNamed 7) = true := by kernel_rfl
theorem fnExactDepthOf_closed : joinedFacts Tryz.pinned.checked.prog 7 Tryz.f7 Rows.fnExactDepthOfSpec Rows.fnExactDepthOfRow = true := by
  unfold joinedFacts
  rw [fnExactDepthOf_j1, fnExactDepthOf_j2, fnExactDepthOf_j3, fnExactDepthOf_j4, jn_laid, jn_maps, jn_enter, jn_heard]
  kernel_rfl
theorem fnExactDepthOf_holds : Rows.FnExactDepthOfSaid :=
  OpenClaim.holds_of_wide 7 Tryz.f7 rfl rfl rfl rfl rfl rfl rfl ⟨rfl, rfl, rfl, rfl, rfl⟩ rfl rfl rfl rfl rfl (by kernel_rfl) Tryz.func7 fnExactDepthOf_closed
    (of_decide_eq_true (by kernel_rfl)) (by unfold Func.isWrapper; first | (rw [if_pos (by decide +kernel)]; kernel_rfl) | (rw [if_neg (by decide +kernel)]; exact ⟨rfl, rfl⟩))
    (fun os started H enc _ => fnExactDepthOf_lifted os started H enc)
#print axioms fnExactDepthOf_holds
end Go.Proofs.YtibbjjlapglndaaGreat
