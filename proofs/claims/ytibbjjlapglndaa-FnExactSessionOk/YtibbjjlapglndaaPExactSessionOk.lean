/- For every session the law answers true: the program's word on whether both of its layers are right is the model's, and it writes into none; no condition. -/
import Derived.Test.YtibbjjlapglndaaPart11
import Derived.Test.YtibbjjlapglndaaPart12
namespace Go.Proofs.Ytibbjjlapglndaa
open Go.ChangeShapes Go.WideShapes Go.ChangeAt Go.RowKit Go.Joins
set_option maxRecDepth 100000 in
theorem fnExactSessionOk_lifted (os : Os) (started : os.Started) (H : Type) (enc : TypeId × Value → H) :
    ReturnsInHanded {} Try.checked os 4 .any (Rows.fnExactSessionOkSpec.pre6 enc Try.prog Try.f4 Rows.fnExactSessionOkRow.domain false) (Rows.fnExactSessionOkSpec.post enc Try.prog Try.f4 false true false false) := by
  refine returnsInHanded_of_change (C := Try.checked) Try.own started (by kernel_rfl) Try.func4
    (ChangeSpec.witness6 (enc := enc) (C := Try.checked) false ⟨#[], #[.agg #[.slice none 0 0, .slice none 0 0]], []⟩ 8 (by kernel_rfl) (by kernel_rfl) (by kernel_rfl) (by kernel_rfl)) ?_
  intro W base args ds gs before hval0 hW hcnd _
  have hval : ∀ (j : Nat) t v, Try.f4.params[j]? = some t → args[j]? = some v → Value.okWide Try.prog W .any base t v := hval0
  have hW' := hW
  obtain ⟨p, q, hA0, hV, rfl, hfz, hnd⟩ := hW
  have hA : DataW.TrodAll enc Try.prog W 0 (fun _ => true) true Try.f4.params.toList args.toList ds p := hA0
  rw [Try.params4] at hA hval
  obtain ⟨v0, d0, rfl, rfl, h0⟩ := trodAll_one hA
  obtain ⟨rfl, rfl⟩ := trodVars_none hV
  clear hA0 hval0
  simp only [List.append_nil] at hW'
  have hltA := fun x hx => hW'.lt x hx
  have hlt0 : ∀ x ∈ p, x.block < W.heap.size := fun x hx => hltA x (hx)
  have again0 : ∀ W' : World, Below W.heap.size W W' → DataW.Trod enc Try.prog W' 0 (fun b => decide (b < W.heap.size)) true 31 v0 d0 p := fun W' hB =>
    Below.trod Try.laidOut (by kernel_rfl) (of_decide_eq_true (by kernel_rfl)) h0 hB hlt0
  obtain ⟨ao0, n0, cap0, S0, L0, q0, bo0, m0, dap0, U0, M0, r0, rfl, hn0, hm0, hL0, hM0, hS0, hU0⟩ := open_session (hval 0 31 v0 rfl rfl) h0 (hlt0)
  refine (lawSessionOk_any ao0 bo0 n0 cap0 m0 dap0 S0 U0 L0 M0 q0 r0 hn0 hm0 hL0 hM0 W hS0 hU0).mono fun e W' ⟨he, hB⟩ => ?_
  subst he
  exact ⟨_, rfl, ⟨_, _, _, [], _, [], hW', trodAll_mk1 (shut_bool Try.underlying4 _), trodAll_mk1 (again0 W' hB), rfl, hB.frame _, fun h => by cases h⟩⟩
theorem fnExactSessionOk_j1 : (Rows.fnExactSessionOkRow.inPlace == Try.pinned.checked.prog.inPlace 4) = true := by kernel_rfl
theorem fnExactSessionOk_j2 : (Rows.fnExactSessionOkRow.unfollowed == Try.pinned.checked.prog.unfollowed 4) = true := by kernel_rfl
theorem fnExactSessionOk_j3 : (Rows.fnExactSessionOkRow.recurses == Try.pinned.checked.prog.recurses 4) = true := by kernel_rfl
theorem fnExactSessionOk_j4 : (Rows.fnExactSessionOkRow.named == Try.pinned.checked.prog.varsNamed 4) = true := by kernel_rfl
theorem fnExactSessionOk_closed : joinedFacts Try.pinned.checked.prog 4 Try.f4 Rows.fnExactSessionOkSpec Rows.fnExactSessionOkRow = true := by
  unfold joinedFacts
  rw [fnExactSessionOk_j1, fnExactSessionOk_j2, fnExactSessionOk_j3, fnExactSessionOk_j4, jn_laid, jn_maps, jn_enter, jn_heard]
  kernel_rfl
theorem fnExactSessionOk_holds : Rows.FnExactSessionOkSaid :=
  OpenClaim.holds_of_wide 4 Try.f4 rfl rfl rfl rfl rfl rfl rfl ⟨rfl, rfl, rfl, rfl, rfl⟩ rfl rfl rfl rfl rfl (by kernel_rfl) Try.func4 fnExactSessionOk_closed
    (of_decide_eq_true (by kernel_rfl)) (by unfold Func.isWrapper; first | (rw [if_pos (by decide +kernel)]; kernel_rfl) | (rw [if_neg (by decide +kernel)]; exact ⟨rfl, rfl⟩))
    (fun os started H enc _ => fnExactSessionOk_lifted os started H enc)
#print axioms fnExactSessionOk_holds
end Go.Proofs.Ytibbjjlapglndaa
