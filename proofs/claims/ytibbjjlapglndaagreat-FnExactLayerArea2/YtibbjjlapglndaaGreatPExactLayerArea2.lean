/- For every row of rings the law answers true: the program's area of the layer is the model's, and it writes into none; no condition. -/
import Derived.Test.YtibbjjlapglndaaGreatDp18
namespace Go.Proofs.YtibbjjlapglndaaGreat
open Go.ChangeShapes Go.WideShapes Go.ChangeAt Go.RowKit Go.Joins
set_option maxRecDepth 100000 in
theorem fnExactLayerArea2_lifted (os : Os) (started : os.Started) (H : Type) (enc : TypeId × Value → H) :
    ReturnsInHanded {} Tryz.checked os 6 .any (Rows.fnExactLayerArea2Spec.pre6 enc Tryz.prog Tryz.f6 Rows.fnExactLayerArea2Row.domain false) (Rows.fnExactLayerArea2Spec.post enc Tryz.prog Tryz.f6 false true false false) := by
  refine returnsInHanded_of_change (C := Tryz.checked) Tryz.own started (by kernel_rfl) Tryz.func6
    (ChangeSpec.witness6 (enc := enc) (C := Tryz.checked) false ⟨#[], #[.slice none 0 0], []⟩ 8 (by kernel_rfl) (by kernel_rfl) (by kernel_rfl) (by kernel_rfl)) ?_
  intro W base args ds gs before hval0 hW hcnd _
  have hval : ∀ (j : Nat) t v, Tryz.f6.params[j]? = some t → args[j]? = some v → Value.okWide Tryz.prog W .any base t v := hval0
  have hW' := hW
  obtain ⟨p, q, hA0, hV, rfl, hfz, hnd⟩ := hW
  have hA : DataW.TrodAll enc Tryz.prog W 0 (fun _ => true) true Tryz.f6.params.toList args.toList ds p := hA0
  rw [Tryz.params6] at hA hval
  obtain ⟨v0, d0, rfl, rfl, h0⟩ := trodAll_one hA
  obtain ⟨rfl, rfl⟩ := trodVars_none hV
  clear hA0 hval0
  simp only [List.append_nil] at hW'
  have hltA := fun x hx => hW'.lt x hx
  have hlt0 : ∀ x ∈ p, x.block < W.heap.size := fun x hx => hltA x (hx)
  have again0 : ∀ W' : World, Below W.heap.size W W' → DataW.Trod enc Tryz.prog W' 0 (fun b => decide (b < W.heap.size)) true 43 v0 d0 p := fun W' hB =>
    Below.trod Tryz.laidOut (by kernel_rfl) (of_decide_eq_true (by kernel_rfl)) h0 hB hlt0
  obtain ⟨ao0, n0, cap0, S0, L0, q0, rfl, hn0, hL0, hS0⟩ := open_rings (hval 0 43 v0 rfl rfl) h0 (hlt0)
  refine (lawLayerArea2_any ao0 n0 cap0 S0 L0 q0 hn0 hL0 W hS0).mono fun e W' ⟨he, hB⟩ => ?_
  subst he
  exact ⟨_, rfl, ⟨_, _, _, [], _, [], hW', trodAll_mk1 (shut_bool Tryz.underlying4 _), trodAll_mk1 (again0 W' hB), rfl, hB.frame _, fun h => by cases h⟩⟩
theorem fnExactLayerArea2_j1 : (Rows.fnExactLayerArea2Row.inPlace == Tryz.pinned.checked.prog.inPlace 6) = true := by kernel_rfl
theorem fnExactLayerArea2_j2 : (Rows.fnExactLayerArea2Row.unfollowed == Tryz.pinned.checked.prog.unfollowed 6) = true := by kernel_rfl
theorem fnExactLayerArea2_j3 : (Rows.fnExactLayerArea2Row.recurses == Tryz.pinned.checked.prog.recurses 6) = true := by kernel_rfl
theorem fnExactLayerArea2_j4 : (Rows.fnExactLayerArea2Row.named == Tryz.pinned.checked.prog.varsNamed 6) = true := by kernel_rfl
theorem fnExactLayerArea2_closed : joinedFacts Tryz.pinned.checked.prog 6 Tryz.f6 Rows.fnExactLayerArea2Spec Rows.fnExactLayerArea2Row = true := by
  unfold joinedFacts
  rw [fnExactLayerArea2_j1, fnExactLayerArea2_j2, fnExactLayerArea2_j3, fnExactLayerArea2_j4, jn_laid, jn_maps, jn_enter, jn_heard]
  kernel_rfl
theorem fnExactLayerArea2_holds : Rows.FnExactLayerArea2Said :=
  OpenClaim.holds_of_wide 6 Tryz.f6 rfl rfl rfl rfl rfl rfl rfl ⟨rfl, rfl, rfl, rfl, rfl⟩ rfl rfl rfl rfl rfl (by kernel_rfl) Tryz.func6 fnExactLayerArea2_closed
    (of_decide_eq_true (by kernel_rfl)) (by unfold Func.isWrapper; first | (rw [if_pos (by decide +kernel)]; kernel_rfl) | (rw [if_neg (by decide +kernel)]; exact ⟨rfl, rfl⟩))
    (fun os started H enc _ => fnExactLayerArea2_lifted os started H enc)
#print axioms fnExactLayerArea2_holds
end Go.Proofs.YtibbjjlapglndaaGreat
