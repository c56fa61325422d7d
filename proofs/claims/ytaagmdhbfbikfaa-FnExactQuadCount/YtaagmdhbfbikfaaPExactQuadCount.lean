/- For every tree of blocks the law answers true: how many leaves the program tells that it has, and how deep, is what the model tells, and it writes into none; no condition. -/
import Derived.Test.YtaagmdhbfbikfaaPart12
import Derived.Test.YtaagmdhbfbikfaaPart13
namespace Go.Proofs.Ytaagmdhbfbikfaa
open Go.ChangeShapes Go.WideShapes Go.ChangeAt Go.RowKit Go.Joins
set_option maxRecDepth 100000 in
theorem fnExactQuadCount_lifted (os : Os) (started : os.Started) (H : Type) (enc : TypeId × Value → H) :
    ReturnsInHanded {} Try.checked os 4 .any (Rows.fnExactQuadCountSpec.pre6 enc Try.prog Try.f4 Rows.fnExactQuadCountRow.domain false) (Rows.fnExactQuadCountSpec.post enc Try.prog Try.f4 false true false false) := by
  refine returnsInHanded_of_change (C := Try.checked) Try.own started (by kernel_rfl) Try.func4
    (ChangeSpec.witness6 (enc := enc) (C := Try.checked) false ⟨#[], #[.agg #[.int .i64 0, .int .i64 0, .slice none 0 0, .slice none 0 0]], []⟩ 8 (by kernel_rfl) (by kernel_rfl) (by kernel_rfl) (by kernel_rfl)) ?_
  intro W base args ds gs before hval0 hW hcnd _
  have hval : ∀ (j : Nat) t v, Try.f4.params[j]? = some t → args[j]? = some v → Value.okWide Try.prog W .any base t v := hval0
  have hW' := hW
  obtain ⟨p, q, hA0, hV, rfl, hfz, hnd⟩ := hW
  have hA : DataW.TrodAll enc Try.prog W 0 (fun _ => true) true Try.f4.params.toList args.toList ds p := hA0
  rw [Try.params4] at hA hval
  obtain ⟨v0, d0, rfl, rfl, h0⟩ := trodAll_one hA
  obtain ⟨rfl, rfl⟩ := trodVars_none hV
  clear hA0 hval0
  simp only [List.append_nil] at hW'
  have hltA := fun x hx => hW'.lt x hx
  have hlt0 : ∀ x ∈ p, x.block < W.heap.size := fun x hx => hltA x (hx)
  have again0 : ∀ W' : World, Below W.heap.size W W' → DataW.Trod enc Try.prog W' 0 (fun b => decide (b < W.heap.size)) true 25 v0 d0 p := fun W' hB =>
    Below.trod Try.laidOut (by kernel_rfl) (of_decide_eq_true (by kernel_rfl)) h0 hB hlt0
  obtain ⟨Q0, m0, e0, ao0, bo0, cap0, dap0, A0, off0, so0, rfl, hm0, hN0, hL0, hbo0, hS0, hBl0⟩ := open_quad (hval 0 25 v0 rfl rfl) h0 (hlt0)
  refine (lawQuadCount_any Q0 ao0 bo0 cap0 dap0 A0 off0 so0 m0 e0 hm0 hN0 hL0 hbo0 W hS0 hBl0).mono fun e W' ⟨he, hB⟩ => ?_
  subst he
  exact ⟨_, rfl, ⟨_, _, _, [], _, [], hW', trodAll_mk1 (shut_bool Try.underlying4 _), trodAll_mk1 (again0 W' hB), rfl, hB.frame _, fun h => by cases h⟩⟩
theorem fnExactQuadCount_j1 : (Rows.fnExactQuadCountRow.inPlace == Try.pinned.checked.prog.inPlace 4) = true := by kernel_rfl
theorem fnExactQuadCount_j2 : (Rows.fnExactQuadCountRow.unfollowed == Try.pinned.checked.prog.unfollowed 4) = true := by kernel_rfl
theorem fnExactQuadCount_j3 : (Rows.fnExactQuadCountRow.recurses == Try.pinned.checked.prog.recurses 4) = true := by kernel_rfl
theorem fnExactQuadCount_j4 : (Rows.fnExactQuadCountRow.named == Try.pinned.checked.prog.varsNamed 4) = true := by kernel_rfl
theorem fnExactQuadCount_closed : joinedFacts Try.pinned.checked.prog 4 Try.f4 Rows.fnExactQuadCountSpec Rows.fnExactQuadCountRow = true := by
  unfold joinedFacts
  rw [fnExactQuadCount_j1, fnExactQuadCount_j2, fnExactQuadCount_j3, fnExactQuadCount_j4, jn_laid, jn_maps, jn_enter, jn_heard]
  kernel_rfl
theorem fnExactQuadCount_holds : Rows.FnExactQuadCountSaid :=
  OpenClaim.holds_of_wide 4 Try.f4 rfl rfl rfl rfl rfl rfl rfl ⟨rfl, rfl, rfl, rfl, rfl⟩ rfl rfl rfl rfl rfl (by kernel_rfl) Try.func4 fnExactQuadCount_closed
    (of_decide_eq_true (by kernel_rfl)) (by unfold Func.isWrapper; first | (rw [if_pos (by decide +kernel)]; kernel_rfl) | (rw [if_neg (by decide +kernel)]; exact ⟨rfl, rfl⟩))
    (fun os started H enc _ => fnExactQuadCount_lifted os started H enc)
#print axioms fnExactQuadCount_holds
end Go.Proofs.Ytaagmdhbfbikfaa
