/- For every row of segments the law answers true: the program's word on what is at fault in them is the model's; no condition. -/
import Derived.Test.YtckbhihdhcgaeaaPart1
import Derived.SizedLaws
import Derived.Deep.Slices
namespace Go.Proofs.Ytckbhihdhcgaeaa
open Go.ChangeShapes Go.WideShapes Go.ChangeAt Go.RowKit Go.Joins
theorem Try.laidOut : laidOutB Try.prog = true := by kernel_rfl
/-- The numbers of a row of segments, one behind the other. -/
def flat4 (q : Nat → Int × Int × Int × Int) (k : Nat) : Int := if k % 4 = 0 then (q (k / 4)).1 else if k % 4 = 1 then (q (k / 4)).2.1 else if k % 4 = 2 then (q (k / 4)).2.2.1 else (q (k / 4)).2.2.2
theorem segs_of {H : Type} {enc : TypeId × Value → H} {W : World} {a : Addr} {len m n : Nat} {D : Nat → DataW H} {Pl : Nat → List MemPlace} (hl : len ≤ m)
    (hx : ∀ i, i < m → ∃ cs', W.cells? 0 (a.add (i * Try.prog.cellsOf 52)) (Try.prog.cellsOf 52) = some cs' ∧ DataW.trod enc Try.prog W 0 (fun _ => true) true n 52 cs' = some (D i, Pl i))
    (hlt : ∀ x ∈ MemPlace.row a (m * Try.prog.cellsOf 52), x.block < W.heap.size) : ∃ x : Nat → Int, SegIn W (some a) len x := by
  rw [Try.cellsSeg] at hx hlt
  have each : ∀ i, i < m → ∃ q : Int × Int × Int × Int, W.cell? (a.add (i * 4)) = some (.int .i64 q.1) ∧ W.cell? (a.add (i * 4 + 1)) = some (.int .i64 q.2.1) ∧ W.cell? (a.add (i * 4 + 2)) = some (.int .i64 q.2.2.1) ∧ W.cell? (a.add (i * 4 + 3)) = some (.int .i64 q.2.2.2) := by
    intro i hi
    obtain ⟨cs', h1, h2⟩ := hx i hi
    obtain ⟨_, hlen, hcell⟩ := World.cells?_some h1
    match cs', hlen with
    | [v0, v1, v2, v3], _ =>
      have e0 := hcell 0 (by omega); have e1 := hcell 1 (by omega); have e2 := hcell 2 (by omega); have e3 := hcell 3 (by omega)
      rw [Go.Deep.add_add] at e0 e1 e2 e3
      obtain ⟨y0, y1, k, hy, _, g0, g1⟩ := trod_struct2 Try.underlying52 h2
      simp [Try.cellsSpot] at g0 g1
      obtain ⟨p, q, rfl, rfl, -, -, -⟩ := trod_spot g0
      obtain ⟨r, s, rfl, rfl, -, -, -⟩ := trod_spot g1
      exact ⟨(p, q, r, s), by simpa using e0, by simpa using e1, by simpa using e2, by simpa using e3⟩
  obtain ⟨q, hq⟩ := Go.Deep.choose_lt each
  obtain ⟨ab, ao, spot⟩ := a
  refine ⟨flat4 q, fun i hi => ?_⟩
  have hspot : spot = none := by simpa [Addr.add] using World.cell?_spot (hq 0 (by omega)).1
  subst hspot
  obtain ⟨c0, c1, c2, c3⟩ := hq i (by omega)
  rw [Addr.add_lit] at c0 c1 c2 c3
  refine ⟨ab, ao, rfl, hlt (.cell ab (ao + i * 4)) (by simp only [MemPlace.row, List.mem_map, List.mem_range]; exact ⟨i * 4, by omega, rfl⟩), fun j hj => ?_⟩
  unfold flat4
  have hd : (i * 4 + j) / 4 = i := by omega
  have hm : (i * 4 + j) % 4 = j := by omega
  rw [hd, hm]
  rcases (show j = 0 ∨ j = 1 ∨ j = 2 ∨ j = 3 by omega) with rfl | rfl | rfl | rfl
  · simpa using c0
  · simpa [Nat.add_assoc] using c1
  · simpa [Nat.add_assoc] using c2
  · simpa [Nat.add_assoc] using c3
set_option maxRecDepth 100000 in
theorem fnExactSegsFault_lifted (os : Os) (started : os.Started) (H : Type) (enc : TypeId × Value → H) :
    ReturnsInHanded {} Try.checked os 15 .any (Rows.fnExactSegsFaultSpec.pre6 enc Try.prog Try.f15 Rows.fnExactSegsFaultRow.domain false) (Rows.fnExactSegsFaultSpec.post enc Try.prog Try.f15 false true false false) := by
  refine returnsInHanded_of_change (C := Try.checked) Try.own started (by kernel_rfl) Try.func15
    (ChangeSpec.witness6 (enc := enc) (C := Try.checked) false ⟨#[], #[.slice none 0 0], []⟩ 8 (by kernel_rfl) (by kernel_rfl) (by kernel_rfl) (by kernel_rfl)) ?_
  intro W base args ds gs before hval0 hW hcnd _
  have hval : ∀ (j : Nat) t v, Try.f15.params[j]? = some t → args[j]? = some v → Value.okWide Try.prog W .any base t v := hval0
  have hW' := hW
  obtain ⟨p, q, hA0, hV, rfl, hfz, hnd⟩ := hW
  have hA : DataW.TrodAll enc Try.prog W 0 (fun _ => true) true Try.f15.params.toList args.toList ds p := hA0
  rw [Try.params15] at hA hval
  obtain ⟨v0, d0, rfl, rfl, h0⟩ := trodAll_one hA
  obtain ⟨rfl, rfl⟩ := trodVars_none hV
  have h0k := h0
  obtain ⟨fuel, hf⟩ := h0
  clear hA0 hval0
  simp only [List.append_nil] at hW'
  have hlt : ∀ x ∈ p, x.block < W.heap.size := fun x hx => by simpa using hW'.lt x hx
  have again : ∀ W' : World, Below W.heap.size W W' → DataW.Trod enc Try.prog W' 0 (fun b => decide (b < W.heap.size)) true 66 v0 d0 p := fun W' hB =>
    Below.trod Try.laidOut (by kernel_rfl) (of_decide_eq_true (by kernel_rfl)) h0k hB hlt
  obtain ⟨a0, len, cap, rfl⟩ := okWide_slice Try.underlying66 (hval 0 66 v0 rfl rfl)
  rcases Go.Deep.open_slice Try.underlying66 hf with ⟨hcs, hx⟩ | ⟨a, len', cap', m, n, D, Pl, hcs, _, hl, hm, hz, hx, hel⟩
  · simp [Value.cells] at hcs
    obtain ⟨rfl, rfl, rfl⟩ := hcs
    simp only [Prod.mk.injEq] at hx
    obtain ⟨rfl, rfl⟩ := hx
    refine (lawSegsFault_any none 0 0 (fun _ => 0) (by decide) W (fun _ i hi => by omega)).mono fun e W' ⟨he, hB⟩ => ?_
    subst he
    exact ⟨_, rfl, ⟨_, _, _, [], _, [], hW', trodAll_mk1 (shut_bool Try.underlying4 _), trodAll_mk1 (again W' hB), rfl, hB.frame _, fun h => by cases h⟩⟩
  · simp [Value.cells] at hcs
    obtain ⟨rfl, rfl, rfl⟩ := hcs
    simp only [Prod.mk.injEq] at hx
    obtain ⟨rfl, rfl⟩ := hx
    simp only [if_true] at hz
    obtain ⟨x, hS⟩ := segs_of (len := len) (by omega) hel (fun y hy => hlt y (List.mem_append_left _ hy))
    refine (lawSegsFault_any (some a) len cap x (by have := hm; simp [maxLen] at this; omega) W (fun _ => hS)).mono fun e W' ⟨he, hB⟩ => ?_
    subst he
    exact ⟨_, rfl, ⟨_, _, _, [], _, [], hW', trodAll_mk1 (shut_bool Try.underlying4 _), trodAll_mk1 (again W' hB), rfl, hB.frame _, fun h => by cases h⟩⟩
theorem fnExactSegsFault_j1 : (Rows.fnExactSegsFaultRow.inPlace == Try.pinned.checked.prog.inPlace 15) = true := by kernel_rfl
theorem fnExactSegsFault_j2 : (Rows.fnExactSegsFaultRow.unfollowed == Try.pinned.checked.prog.unfollowed 15) = true := by kernel_rfl
theorem fnExactSegsFault_j3 : (Rows.fnExactSegsFaultRow.recurses == Try.pinned.checked.prog.recurses 15) = true := by kernel_rfl
theorem fnExactSegsFault_j4 : (Rows.fnExactSegsFaultRow.named == Try.pinned.checked.prog.varsNamed 15) = true := by kernel_rfl
theorem fnExactSegsFault_closed : joinedFacts Try.pinned.checked.prog 15 Try.f15 Rows.fnExactSegsFaultSpec Rows.fnExactSegsFaultRow = true := by
  unfold joinedFacts
  rw [fnExactSegsFault_j1, fnExactSegsFault_j2, fnExactSegsFault_j3, fnExactSegsFault_j4, jn_laid, jn_maps, jn_enter, jn_heard]
  kernel_rfl
theorem fnExactSegsFault_holds : Rows.FnExactSegsFaultSaid :=
  OpenClaim.holds_of_wide 15 Try.f15 rfl rfl rfl rfl rfl rfl rfl ⟨rfl, rfl, rfl, rfl, rfl⟩ rfl rfl rfl rfl rfl (by kernel_rfl) Try.func15 fnExactSegsFault_closed
    (of_decide_eq_true (by kernel_rfl)) (by unfold Func.isWrapper; first | (rw [if_pos (by decide +kernel)]; kernel_rfl) | (rw [if_neg (by decide +kernel)]; exact ⟨rfl, rfl⟩))
    (fun os started H enc _ => fnExactSegsFault_lifted os started H enc)
#print axioms fnExactSegsFault_holds
end Go.Proofs.Ytckbhihdhcgaeaa
