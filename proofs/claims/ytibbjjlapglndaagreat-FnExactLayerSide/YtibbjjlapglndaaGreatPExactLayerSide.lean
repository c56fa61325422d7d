/- For every row of rings and point the law answers true: the program's word on which side of the layer the point lies is the model's, and it writes into none; no condition. -/
import Derived.Test.YtibbjjlapglndaaGreatLs18
namespace Go.Proofs.YtibbjjlapglndaaGreat
open Go.ChangeShapes Go.WideShapes Go.ChangeAt Go.RowKit Go.Joins
set_option maxRecDepth 100000 in
theorem fnExactLayerSide_lifted (os : Os) (started : os.Started) (H : Type) (enc : TypeId × Value → H) :
    ReturnsInHanded {} Tryz.checked os 5 .any (Rows.fnExactLayerSideSpec.pre6 enc Tryz.prog Tryz.f5 Rows.fnExactLayerSideRow.domain false) (Rows.fnExactLayerSideSpec.post enc Tryz.prog Tryz.f5 false true false false) := by
  refine returnsInHanded_of_change (C := Tryz.checked) Tryz.own started (by kernel_rfl) Tryz.func5
    (ChangeSpec.witness6 (enc := enc) (C := Tryz.checked) false ⟨#[], #[.slice none 0 0, .agg #[.int .u64 0, .int .u64 0, .int .u64 0, .int .u64 0, .int .u64 0, .int .u64 0, .int .u64 0, .int .u64 0, .int .u64 0, .int .u64 0, .int .u64 0, .int .u64 0]], []⟩ 8 (by kernel_rfl) (by kernel_rfl) (by kernel_rfl) (by kernel_rfl)) ?_
  intro W base args ds gs before hval0 hW hcnd _
  have hval : ∀ (j : Nat) t v, Tryz.f5.params[j]? = some t → args[j]? = some v → Value.okWide Tryz.prog W .any base t v := hval0
  have hW' := hW
  obtain ⟨p, q, hA0, hV, rfl, hfz, hnd⟩ := hW
  have hA : DataW.TrodAll enc Tryz.prog W 0 (fun _ => true) true Tryz.f5.params.toList args.toList ds p := hA0
  rw [Tryz.params5] at hA hval
  obtain ⟨v0, v1, d0, d1, p0, p1, rfl, rfl, rfl, h0, h1⟩ := trodAll_two hA
  obtain ⟨rfl, rfl⟩ := trodVars_none hV
  clear hA0 hval0
  simp only [List.append_nil] at hW'
  have hltA := fun x hx => hW'.lt x hx
  have hlt0 : ∀ x ∈ p0, x.block < W.heap.size := fun x hx => hltA x (List.mem_append_left _ hx)
  have hlt1 : ∀ x ∈ p1, x.block < W.heap.size := fun x hx => hltA x (List.mem_append_right _ hx)
  have again0 : ∀ W' : World, Below W.heap.size W W' → DataW.Trod enc Tryz.prog W' 0 (fun b => decide (b < W.heap.size)) true 43 v0 d0 p0 := fun W' hB =>
    Below.trod Tryz.laidOut (by kernel_rfl) (of_decide_eq_true (by kernel_rfl)) h0 hB hlt0
  have again1 : ∀ W' : World, Below W.heap.size W W' → DataW.Trod enc Tryz.prog W' 0 (fun b => decide (b < W.heap.size)) true 29 v1 d1 p1 := fun W' hB =>
    Below.trod Tryz.laidOut (by kernel_rfl) (of_decide_eq_true (by kernel_rfl)) h1 hB hlt1
  obtain ⟨ao0, n0, cap0, S0, L0, q0, rfl, hn0, hL0, hS0⟩ := open_rings (hval 0 43 v0 rfl rfl) h0 (hlt0)
  obtain ⟨x1, y1, z1, rfl, rfl, rfl, tx1, ty1, tz1⟩ := open_point (hval 1 29 v1 rfl rfl) h1
  refine (lawLayerSide_any ao0 n0 cap0 S0 L0 q0 x1 y1 z1 hn0 hL0 tx1 ty1 tz1 W hS0).mono fun e W' ⟨he, hB⟩ => ?_
  subst he
  exact ⟨_, rfl, ⟨_, _, _, [], _, [], hW', trodAll_mk1 (shut_bool Tryz.underlying4 _), trodAll_mk2 (again0 W' hB) (again1 W' hB), rfl, hB.frame _, fun h => by cases h⟩⟩
theorem fnExactLayerSide_j1 : (Rows.fnExactLayerSideRow.inPlace == Tryz.pinned.checked.prog.inPlace 5) = true := by kernel_rfl
theorem fnExactLayerSide_j2 : (Rows.fnExactLayerSideRow.unfollowed == Tryz.pinned.checked.prog.unfollowed 5) = true := by kernel_rfl
theorem fnExactLayerSide_j3 : (Rows.fnExactLayerSideRow.recurses == Tryz.pinned.checked.prog.recurses 5) = true := by kernel_rfl
theorem fnExactLayerSide_j4 : (Rows.fnExactLayerSideRow.named == Tryz.pinned.checked.prog.varsNamed 5) = true := by kernel_rfl
theorem fnExactLayerSide_closed : joinedFacts Tryz.pinned.checked.prog 5 Tryz.f5 Rows.fnExactLayerSideSpec Rows.fnExactLayerSideRow = true := by
  unfold joinedFacts
  rw [fnExactLayerSide_j1, fnExactLayerSide_j2, fnExactLayerSide_j3, fnExactLayerSide_j4, jn_laid, jn_maps, jn_enter, jn_heard]
  kernel_rfl
theorem fnExactLayerSide_holds : Rows.FnExactLayerSideSaid :=
  OpenClaim.holds_of_wide 5 Tryz.f5 rfl rfl rfl rfl rfl rfl rfl ⟨rfl, rfl, rfl, rfl, rfl⟩ rfl rfl rfl rfl rfl (by kernel_rfl) Tryz.func5 fnExactLayerSide_closed
    (of_decide_eq_true (by kernel_rfl)) (by unfold Func.isWrapper; first | (rw [if_pos (by decide +kernel)]; kernel_rfl) | (rw [if_neg (by decide +kernel)]; exact ⟨rfl, rfl⟩))
    (fun os started H enc _ => fnExactLayerSide_lifted os started H enc)
#print axioms fnExactLayerSide_holds
end Go.Proofs.YtibbjjlapglndaaGreat
