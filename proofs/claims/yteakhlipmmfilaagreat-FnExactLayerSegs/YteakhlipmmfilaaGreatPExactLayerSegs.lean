/- For every row of rings the law answers true: the sides that the program tells of it, in order, are those that the model tells, the program writes into no argument, and its answer owns its memory; no condition. -/
import Derived.Test.YteakhlipmmfilaaGreatLt9
import Derived.Test.YteakhlipmmfilaaGreatLt10
import Derived.Test.YteakhlipmmfilaaGreatLt4
import Derived.Test.YteakhlipmmfilaaGreatLt12
namespace Go.Proofs.YteakhlipmmfilaaGreat
open Go.ChangeShapes Go.WideShapes Go.ChangeAt Go.RowKit Go.Joins
set_option maxRecDepth 100000 in
theorem fnExactLayerSegs_lifted (os : Os) (started : os.Started) (H : Type) (enc : TypeId × Value → H) :
    ReturnsInHanded {} Tryz.checked os 3 .any (Rows.fnExactLayerSegsSpec.pre6 enc Tryz.prog Tryz.f3 Rows.fnExactLayerSegsRow.domain false) (Rows.fnExactLayerSegsSpec.post enc Tryz.prog Tryz.f3 false true false false) := by
  refine returnsInHanded_of_change (C := Tryz.checked) Tryz.own started (by kernel_rfl) Tryz.func3
    (ChangeSpec.witness6 (enc := enc) (C := Tryz.checked) false ⟨#[], #[.slice none 0 0], []⟩ 8 (by kernel_rfl) (by kernel_rfl) (by kernel_rfl) (by kernel_rfl)) ?_
  intro W base args ds gs before hval0 hW hcnd _
  have hval : ∀ (j : Nat) t v, Tryz.f3.params[j]? = some t → args[j]? = some v → Value.okWide Tryz.prog W .any base t v := hval0
  have hW' := hW
  obtain ⟨p, q, hA0, hV, rfl, hfz, hnd⟩ := hW
  have hA : DataW.TrodAll enc Tryz.prog W 0 (fun _ => true) true Tryz.f3.params.toList args.toList ds p := hA0
  rw [Tryz.params3] at hA hval
  obtain ⟨v0, d0, rfl, rfl, h0⟩ := trodAll_one hA
  obtain ⟨rfl, rfl⟩ := trodVars_none hV
  clear hA0 hval0
  simp only [List.append_nil] at hW'
  have hltA := fun x hx => hW'.lt x hx
  have hlt0 : ∀ x ∈ p, x.block < W.heap.size := fun x hx => hltA x (hx)
  have again0 : ∀ W' : World, Below W.heap.size W W' → DataW.Trod enc Tryz.prog W' 0 (fun b => decide (b < W.heap.size)) true 22 v0 d0 p := fun W' hB =>
    Below.trod Tryz.laidOut (by kernel_rfl) (of_decide_eq_true (by kernel_rfl)) h0 hB hlt0
  obtain ⟨ao0, n0, cap0, S0, L0, q0, rfl, hn0, hL0, hS0⟩ := open_rings (hval 0 22 v0 rfl rfl) h0 (hlt0)
  refine (lawLayerSegs_any ao0 n0 cap0 S0 L0 q0 hn0 hL0 W hS0).mono fun e W' ⟨he, hB⟩ => ?_
  subst he
  exact ⟨_, rfl, ⟨_, _, _, [], _, [], hW', trodAll_mk1 (shut_bool Tryz.underlying4 _), trodAll_mk1 (again0 W' hB), rfl, hB.frame _, fun h => by cases h⟩⟩
theorem fnExactLayerSegs_j1 : (Rows.fnExactLayerSegsRow.inPlace == Tryz.pinned.checked.prog.inPlace 3) = true := by kernel_rfl
theorem fnExactLayerSegs_j2 : (Rows.fnExactLayerSegsRow.unfollowed == Tryz.pinned.checked.prog.unfollowed 3) = true := by kernel_rfl
theorem fnExactLayerSegs_j3 : (Rows.fnExactLayerSegsRow.recurses == Tryz.pinned.checked.prog.recurses 3) = true := by kernel_rfl
theorem fnExactLayerSegs_j4 : (Rows.fnExactLayerSegsRow.named == Tryz.pinned.checked.prog.varsNamed 3) = true := by kernel_rfl
theorem fnExactLayerSegs_closed : joinedFacts Tryz.pinned.checked.prog 3 Tryz.f3 Rows.fnExactLayerSegsSpec Rows.fnExactLayerSegsRow = true := by
  unfold joinedFacts
  rw [fnExactLayerSegs_j1, fnExactLayerSegs_j2, fnExactLayerSegs_j3, fnExactLayerSegs_j4, jn_laid, jn_maps, jn_enter, jn_heard]
  kernel_rfl
theorem fnExactLayerSegs_holds : Rows.FnExactLayerSegsSaid :=
  OpenClaim.holds_of_wide 3 Tryz.f3 rfl rfl rfl rfl rfl rfl rfl ⟨rfl, rfl, rfl, rfl, rfl⟩ rfl rfl rfl rfl rfl (by kernel_rfl) Tryz.func3 fnExactLayerSegs_closed
    (of_decide_eq_true (by kernel_rfl)) (by unfold Func.isWrapper; first | (rw [if_pos (by decide +kernel)]; kernel_rfl) | (rw [if_neg (by decide +kernel)]; exact ⟨rfl, rfl⟩))
    (fun os started H enc _ => fnExactLayerSegs_lifted os started H enc)
#print axioms fnExactLayerSegs_holds
end Go.Proofs.YteakhlipmmfilaaGreat
