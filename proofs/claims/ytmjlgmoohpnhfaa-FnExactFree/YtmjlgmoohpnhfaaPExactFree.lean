/- For every row of segments and every way the law answers true: the program's word on whether the way keeps clear of the segments is the model's, and it writes into neither; no condition. -/
import Derived.Test.YtmjlgmoohpnhfaaPart14
namespace Go.Proofs.Ytmjlgmoohpnhfaa
open Go.ChangeShapes Go.WideShapes Go.ChangeAt Go.RowKit Go.Joins
set_option maxRecDepth 100000 in
theorem fnExactFree_lifted (os : Os) (started : os.Started) (H : Type) (enc : TypeId × Value → H) :
    ReturnsInHanded {} Try.checked os 7 .any (Rows.fnExactFreeSpec.pre6 enc Try.prog Try.f7 Rows.fnExactFreeRow.domain false) (Rows.fnExactFreeSpec.post enc Try.prog Try.f7 false true false false) := by
  refine returnsInHanded_of_change (C := Try.checked) Try.own started (by kernel_rfl) Try.func7
    (ChangeSpec.witness6 (enc := enc) (C := Try.checked) false ⟨#[], #[.slice none 0 0, .slice none 0 0], []⟩ 8 (by kernel_rfl) (by kernel_rfl) (by kernel_rfl) (by kernel_rfl)) ?_
  intro W base args ds gs before hval0 hW hcnd _
  have hval : ∀ (j : Nat) t v, Try.f7.params[j]? = some t → args[j]? = some v → Value.okWide Try.prog W .any base t v := hval0
  have hW' := hW
  obtain ⟨p, q, hA0, hV, rfl, hfz, hnd⟩ := hW
  have hA : DataW.TrodAll enc Try.prog W 0 (fun _ => true) true Try.f7.params.toList args.toList ds p := hA0
  rw [Try.params7] at hA hval
  obtain ⟨v0, v1, d0, d1, p0, p1, rfl, rfl, rfl, h0, h1⟩ := trodAll_two hA
  obtain ⟨rfl, rfl⟩ := trodVars_none hV
  clear hA0 hval0
  simp only [List.append_nil] at hW'
  have hltA := fun x hx => hW'.lt x hx
  have hlt0 : ∀ x ∈ p0, x.block < W.heap.size := fun x hx => hltA x (List.mem_append_left _ hx)
  have hlt1 : ∀ x ∈ p1, x.block < W.heap.size := fun x hx => hltA x (List.mem_append_right _ hx)
  have again0 : ∀ W' : World, Below W.heap.size W W' → DataW.Trod enc Try.prog W' 0 (fun b => decide (b < W.heap.size)) true 42 v0 d0 p0 := fun W' hB =>
    Below.trod Try.laidOut (by kernel_rfl) (of_decide_eq_true (by kernel_rfl)) h0 hB hlt0
  have again1 : ∀ W' : World, Below W.heap.size W W' → DataW.Trod enc Try.prog W' 0 (fun b => decide (b < W.heap.size)) true 22 v1 d1 p1 := fun W' hB =>
    Below.trod Try.laidOut (by kernel_rfl) (of_decide_eq_true (by kernel_rfl)) h1 hB hlt1
  obtain ⟨ao0, n0, cap0, q0, rfl, hn0, hS0⟩ := open_segs (hval 0 42 v0 rfl rfl) h0 (hlt0)
  obtain ⟨ao1, n1, cap1, q1, rfl, hn1, hS1⟩ := open_spots (hval 1 22 v1 rfl rfl) h1 (hlt1)
  refine (lawFree_any ao0 ao1 n0 n1 cap0 cap1 q0 q1 hn0 hn1 W (fun _ => hS0) (fun _ => hS1)).mono fun e W' ⟨he, hB⟩ => ?_
  subst he
  exact ⟨_, rfl, ⟨_, _, _, [], _, [], hW', trodAll_mk1 (shut_bool Try.underlying4 _), trodAll_mk2 (again0 W' hB) (again1 W' hB), rfl, hB.frame _, fun h => by cases h⟩⟩
theorem fnExactFree_j1 : (Rows.fnExactFreeRow.inPlace == Try.pinned.checked.prog.inPlace 7) = true := by kernel_rfl
theorem fnExactFree_j2 : (Rows.fnExactFreeRow.unfollowed == Try.pinned.checked.prog.unfollowed 7) = true := by kernel_rfl
theorem fnExactFree_j3 : (Rows.fnExactFreeRow.recurses == Try.pinned.checked.prog.recurses 7) = true := by kernel_rfl
theorem fnExactFree_j4 : (Rows.fnExactFreeRow.named == Try.pinned.checked.prog.varsNamed 7) = true := by kernel_rfl
theorem fnExactFree_closed : joinedFacts Try.pinned.checked.prog 7 Try.f7 Rows.fnExactFreeSpec Rows.fnExactFreeRow = true := by
  unfold joinedFacts
  rw [fnExactFree_j1, fnExactFree_j2, fnExactFree_j3, fnExactFree_j4, jn_laid, jn_maps, jn_enter, jn_heard]
  kernel_rfl
theorem fnExactFree_holds : Rows.FnExactFreeSaid :=
  OpenClaim.holds_of_wide 7 Try.f7 rfl rfl rfl rfl rfl rfl rfl ⟨rfl, rfl, rfl, rfl, rfl⟩ rfl rfl rfl rfl rfl (by kernel_rfl) Try.func7 fnExactFree_closed
    (of_decide_eq_true (by kernel_rfl)) (by unfold Func.isWrapper; first | (rw [if_pos (by decide +kernel)]; kernel_rfl) | (rw [if_neg (by decide +kernel)]; exact ⟨rfl, rfl⟩))
    (fun os started H enc _ => fnExactFree_lifted os started H enc)
#print axioms fnExactFree_holds
end Go.Proofs.Ytmjlgmoohpnhfaa
