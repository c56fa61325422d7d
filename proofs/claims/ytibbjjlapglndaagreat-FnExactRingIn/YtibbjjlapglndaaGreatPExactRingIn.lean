/- For all rings the law answers true: the program's word on whether one lies within the other is the model's, and it writes into none; no condition. -/
import Derived.Test.YtibbjjlapglndaaGreatPart16
namespace Go.Proofs.YtibbjjlapglndaaGreat
open Go.ChangeShapes Go.WideShapes Go.ChangeAt Go.RowKit Go.Joins
set_option maxRecDepth 100000 in
theorem fnExactRingIn_lifted (os : Os) (started : os.Started) (H : Type) (enc : TypeId × Value → H) :
    ReturnsInHanded {} Tryz.checked os 4 .any (Rows.fnExactRingInSpec.pre6 enc Tryz.prog Tryz.f4 Rows.fnExactRingInRow.domain false) (Rows.fnExactRingInSpec.post enc Tryz.prog Tryz.f4 false true false false) := by
  refine returnsInHanded_of_change (C := Tryz.checked) Tryz.own started (by kernel_rfl) Tryz.func4
    (ChangeSpec.witness6 (enc := enc) (C := Tryz.checked) false ⟨#[], #[.agg #[.slice none 0 0], .agg #[.slice none 0 0]], []⟩ 8 (by kernel_rfl) (by kernel_rfl) (by kernel_rfl) (by kernel_rfl)) ?_
  intro W base args ds gs before hval0 hW hcnd _
  have hval : ∀ (j : Nat) t v, Tryz.f4.params[j]? = some t → args[j]? = some v → Value.okWide Tryz.prog W .any base t v := hval0
  have hW' := hW
  obtain ⟨p, q, hA0, hV, rfl, hfz, hnd⟩ := hW
  have hA : DataW.TrodAll enc Tryz.prog W 0 (fun _ => true) true Tryz.f4.params.toList args.toList ds p := hA0
  rw [Tryz.params4] at hA hval
  obtain ⟨v0, v1, d0, d1, p0, p1, rfl, rfl, rfl, h0, h1⟩ := trodAll_two hA
  obtain ⟨rfl, rfl⟩ := trodVars_none hV
  clear hA0 hval0
  simp only [List.append_nil] at hW'
  have hltA := fun x hx => hW'.lt x hx
  have hlt0 : ∀ x ∈ p0, x.block < W.heap.size := fun x hx => hltA x (List.mem_append_left _ hx)
  have hlt1 : ∀ x ∈ p1, x.block < W.heap.size := fun x hx => hltA x (List.mem_append_right _ hx)
  have again0 : ∀ W' : World, Below W.heap.size W W' → DataW.Trod enc Tryz.prog W' 0 (fun b => decide (b < W.heap.size)) true 24 v0 d0 p0 := fun W' hB =>
    Below.trod Tryz.laidOut (by kernel_rfl) (of_decide_eq_true (by kernel_rfl)) h0 hB hlt0
  have again1 : ∀ W' : World, Below W.heap.size W W' → DataW.Trod enc Tryz.prog W' 0 (fun b => decide (b < W.heap.size)) true 24 v1 d1 p1 := fun W' hB =>
    Below.trod Tryz.laidOut (by kernel_rfl) (of_decide_eq_true (by kernel_rfl)) h1 hB hlt1
  obtain ⟨ao0, n0, cap0, q0, rfl, hn0, hS0⟩ := open_ring (hval 0 24 v0 rfl rfl) h0 (hlt0)
  obtain ⟨ao1, n1, cap1, q1, rfl, hn1, hS1⟩ := open_ring (hval 1 24 v1 rfl rfl) h1 (hlt1)
  refine (lawRingIn_any ao0 ao1 n0 cap0 n1 cap1 q0 q1 hn0 hn1 W hS0 hS1).mono fun e W' ⟨he, hB⟩ => ?_
  subst he
  exact ⟨_, rfl, ⟨_, _, _, [], _, [], hW', trodAll_mk1 (shut_bool Tryz.underlying4 _), trodAll_mk2 (again0 W' hB) (again1 W' hB), rfl, hB.frame _, fun h => by cases h⟩⟩
theorem fnExactRingIn_j1 : (Rows.fnExactRingInRow.inPlace == Tryz.pinned.checked.prog.inPlace 4) = true := by kernel_rfl
theorem fnExactRingIn_j2 : (Rows.fnExactRingInRow.unfollowed == Tryz.pinned.checked.prog.unfollowed 4) = true := by kernel_rfl
theorem fnExactRingIn_j3 : (Rows.fnExactRingInRow.recurses == Tryz.pinned.checked.prog.recurses 4) = true := by kernel_rfl
theorem fnExactRingIn_j4 : (Rows.fnExactRingInRow.named == Tryz.pinned.checked.prog.varsNamed 4) = true := by kernel_rfl
theorem fnExactRingIn_closed : joinedFacts Tryz.pinned.checked.prog 4 Tryz.f4 Rows.fnExactRingInSpec Rows.fnExactRingInRow = true := by
  unfold joinedFacts
  rw [fnExactRingIn_j1, fnExactRingIn_j2, fnExactRingIn_j3, fnExactRingIn_j4, jn_laid, jn_maps, jn_enter, jn_heard]
  kernel_rfl
theorem fnExactRingIn_holds : Rows.FnExactRingInSaid :=
  OpenClaim.holds_of_wide 4 Tryz.f4 rfl rfl rfl rfl rfl rfl rfl ⟨rfl, rfl, rfl, rfl, rfl⟩ rfl rfl rfl rfl rfl (by kernel_rfl) Tryz.func4 fnExactRingIn_closed
    (of_decide_eq_true (by kernel_rfl)) (by unfold Func.isWrapper; first | (rw [if_pos (by decide +kernel)]; kernel_rfl) | (rw [if_neg (by decide +kernel)]; exact ⟨rfl, rfl⟩))
    (fun os started H enc _ => fnExactRingIn_lifted os started H enc)
#print axioms fnExactRingIn_holds
end Go.Proofs.YtibbjjlapglndaaGreat
