/- For every row of segments and every spot the law answers true: the nearest segment and the square of the distance that the program tells are those that the model tells; no condition. -/
import Derived.Test.YtmjlgmoohpnhfaaPart12
namespace Go.Proofs.Ytmjlgmoohpnhfaa
open Go.ChangeShapes Go.WideShapes Go.ChangeAt Go.RowKit Go.Joins
set_option maxRecDepth 100000 in
theorem fnExactNearestSeg_lifted (os : Os) (started : os.Started) (H : Type) (enc : TypeId × Value → H) :
    ReturnsInHanded {} Try.checked os 6 .any (Rows.fnExactNearestSegSpec.pre6 enc Try.prog Try.f6 Rows.fnExactNearestSegRow.domain false) (Rows.fnExactNearestSegSpec.post enc Try.prog Try.f6 false true false false) := by
  refine returnsInHanded_of_change (C := Try.checked) Try.own started (by kernel_rfl) Try.func6
    (ChangeSpec.witness6 (enc := enc) (C := Try.checked) false ⟨#[], #[.slice none 0 0, .agg #[.int .i64 0, .int .i64 0]], []⟩ 8 (by kernel_rfl) (by kernel_rfl) (by kernel_rfl) (by kernel_rfl)) ?_
  intro W base args ds gs before hval0 hW hcnd _
  have hval : ∀ (j : Nat) t v, Try.f6.params[j]? = some t → args[j]? = some v → Value.okWide Try.prog W .any base t v := hval0
  have hW' := hW
  obtain ⟨p, q, hA0, hV, rfl, hfz, hnd⟩ := hW
  have hA : DataW.TrodAll enc Try.prog W 0 (fun _ => true) true Try.f6.params.toList args.toList ds p := hA0
  rw [Try.params6] at hA hval
  obtain ⟨v0, v1, d0, d1, p0, p1, rfl, rfl, rfl, h0, h1⟩ := trodAll_two hA
  obtain ⟨rfl, rfl⟩ := trodVars_none hV
  obtain ⟨x1, x2, rfl, rfl, rfl, w1, w2⟩ := open_spot (hval 1 44 v1 rfl rfl) h1
  have h0k := h0
  obtain ⟨fuel, hf⟩ := h0
  clear hA0 hval0
  simp only [List.append_nil] at hW'
  have hlt : ∀ x ∈ p0, x.block < W.heap.size := fun x hx => by simpa using hW'.lt x hx
  have again : ∀ W' : World, Below W.heap.size W W' → DataW.Trod enc Try.prog W' 0 (fun b => decide (b < W.heap.size)) true 42 v0 d0 p0 := fun W' hB =>
    Below.trod Try.laidOut (by kernel_rfl) (of_decide_eq_true (by kernel_rfl)) h0k hB hlt
  obtain ⟨a0, len, cap, rfl⟩ := okWide_slice Try.underlying42 (hval 0 42 v0 rfl rfl)
  rcases Go.Deep.open_slice Try.underlying42 hf with ⟨hcs, hx⟩ | ⟨a, len', cap', m, n, D, Pl, hcs, _, hl, hm, hz, hx, hel⟩
  · simp [Value.cells] at hcs
    obtain ⟨rfl, rfl, rfl⟩ := hcs
    simp only [Prod.mk.injEq] at hx
    obtain ⟨rfl, rfl⟩ := hx
    refine (lawNearest_any none 0 0 (fun _ => 0) x1 x2 (by decide) W (fun _ i hi => by omega)).mono fun e W' ⟨he, hB⟩ => ?_
    subst he
    exact ⟨_, rfl, ⟨_, _, _, [], _, [], hW', trodAll_mk1 (shut_bool Try.underlying4 _), trodAll_mk2 (again W' hB) (shut_spot w1 w2), rfl, hB.frame _, fun h => by cases h⟩⟩
  · simp [Value.cells] at hcs
    obtain ⟨rfl, rfl, rfl⟩ := hcs
    simp only [Prod.mk.injEq] at hx
    obtain ⟨rfl, rfl⟩ := hx
    simp only [if_true] at hz
    obtain ⟨x, hS⟩ := segs_of (len := len) (by omega) hel (fun y hy => hlt y (List.mem_append_left _ hy))
    refine (lawNearest_any (some a) len cap x x1 x2 (by have := hm; simp [maxLen] at this; omega) W (fun _ => hS)).mono fun e W' ⟨he, hB⟩ => ?_
    subst he
    exact ⟨_, rfl, ⟨_, _, _, [], _, [], hW', trodAll_mk1 (shut_bool Try.underlying4 _), trodAll_mk2 (again W' hB) (shut_spot w1 w2), rfl, hB.frame _, fun h => by cases h⟩⟩
theorem fnExactNearestSeg_j1 : (Rows.fnExactNearestSegRow.inPlace == Try.pinned.checked.prog.inPlace 6) = true := by kernel_rfl
theorem fnExactNearestSeg_j2 : (Rows.fnExactNearestSegRow.unfollowed == Try.pinned.checked.prog.unfollowed 6) = true := by kernel_rfl
theorem fnExactNearestSeg_j3 : (Rows.fnExactNearestSegRow.recurses == Try.pinned.checked.prog.recurses 6) = true := by kernel_rfl
theorem fnExactNearestSeg_j4 : (Rows.fnExactNearestSegRow.named == Try.pinned.checked.prog.varsNamed 6) = true := by kernel_rfl
theorem fnExactNearestSeg_closed : joinedFacts Try.pinned.checked.prog 6 Try.f6 Rows.fnExactNearestSegSpec Rows.fnExactNearestSegRow = true := by
  unfold joinedFacts
  rw [fnExactNearestSeg_j1, fnExactNearestSeg_j2, fnExactNearestSeg_j3, fnExactNearestSeg_j4, jn_laid, jn_maps, jn_enter, jn_heard]
  kernel_rfl
theorem fnExactNearestSeg_holds : Rows.FnExactNearestSegSaid :=
  OpenClaim.holds_of_wide 6 Try.f6 rfl rfl rfl rfl rfl rfl rfl ⟨rfl, rfl, rfl, rfl, rfl⟩ rfl rfl rfl rfl rfl (by kernel_rfl) Try.func6 fnExactNearestSeg_closed
    (of_decide_eq_true (by kernel_rfl)) (by unfold Func.isWrapper; first | (rw [if_pos (by decide +kernel)]; kernel_rfl) | (rw [if_neg (by decide +kernel)]; exact ⟨rfl, rfl⟩))
    (fun os started H enc _ => fnExactNearestSeg_lifted os started H enc)
#print axioms fnExactNearestSeg_holds
end Go.Proofs.Ytmjlgmoohpnhfaa
