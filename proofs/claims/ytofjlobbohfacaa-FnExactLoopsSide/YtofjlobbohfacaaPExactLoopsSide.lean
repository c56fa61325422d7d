/- For every row of loops and every point the law answers true: the program's word on how the point lies to them is the model's, and it writes into none; no condition. -/
import Derived.Test.YtofjlobbohfacaaPart13
import Derived.SizedLaws
import Derived.Deep.Slices
namespace Go.Proofs.Ytofjlobbohfacaa
open Go.ChangeShapes Go.WideShapes Go.ChangeAt Go.RowKit Go.Joins
theorem Try.laidOut : laidOutB Try.prog = true := by kernel_rfl
theorem points_of {H : Type} {enc : TypeId × Value → H} {W : World} {a : Addr} {len m n : Nat} {D : Nat → DataW H} {Pl : Nat → List MemPlace} (hl : len ≤ m)
    (hx : ∀ i, i < m → ∃ cs', W.cells? 0 (a.add (i * Try.prog.cellsOf 27)) (Try.prog.cellsOf 27) = some cs' ∧ DataW.trod enc Try.prog W 0 (fun _ => true) true n 27 cs' = some (D i, Pl i))
    (hlt : ∀ x ∈ MemPlace.row a (m * Try.prog.cellsOf 27), x.block < W.heap.size) : ∃ q : Qs, PtIn W (some a) len q ∧ ∀ k, k < len → told (q k).1 = true ∧ told (q k).2.1 = true ∧ told (q k).2.2 = true := by
  rw [Try.cellsPoint] at hx hlt
  have each : ∀ i, i < m → ∃ q : Int × Int × Int, (told q.1 = true ∧ told q.2.1 = true ∧ told q.2.2 = true) ∧ W.cell? (a.add (i * 12)) = some (.int .u64 (ww3 q.1)) ∧ W.cell? (a.add (i * 12 + 1)) = some (.int .u64 (ww2 q.1)) ∧ W.cell? (a.add (i * 12 + 2)) = some (.int .u64 (ww1 q.1)) ∧ W.cell? (a.add (i * 12 + 3)) = some (.int .u64 (ww0 q.1)) ∧ W.cell? (a.add (i * 12 + 4)) = some (.int .u64 (ww3 q.2.1)) ∧ W.cell? (a.add (i * 12 + 5)) = some (.int .u64 (ww2 q.2.1)) ∧ W.cell? (a.add (i * 12 + 6)) = some (.int .u64 (ww1 q.2.1)) ∧ W.cell? (a.add (i * 12 + 7)) = some (.int .u64 (ww0 q.2.1)) ∧ W.cell? (a.add (i * 12 + 8)) = some (.int .u64 (ww3 q.2.2)) ∧ W.cell? (a.add (i * 12 + 9)) = some (.int .u64 (ww2 q.2.2)) ∧ W.cell? (a.add (i * 12 + 10)) = some (.int .u64 (ww1 q.2.2)) ∧ W.cell? (a.add (i * 12 + 11)) = some (.int .u64 (ww0 q.2.2)) := by
    intro i hi
    obtain ⟨cs', h1, h2⟩ := hx i hi
    obtain ⟨_, hlen, hcell⟩ := World.cells?_some h1
    match cs', hlen with
    | [v0, v1, v2, v3, v4, v5, v6, v7, v8, v9, v10, v11], _ =>
      have e0 := hcell 0 (by omega); have e1 := hcell 1 (by omega); have e2 := hcell 2 (by omega); have e3 := hcell 3 (by omega); have e4 := hcell 4 (by omega); have e5 := hcell 5 (by omega); have e6 := hcell 6 (by omega); have e7 := hcell 7 (by omega); have e8 := hcell 8 (by omega); have e9 := hcell 9 (by omega); have e10 := hcell 10 (by omega); have e11 := hcell 11 (by omega)
      rw [Go.Deep.add_add] at e0 e1 e2 e3 e4 e5 e6 e7 e8 e9 e10 e11
      obtain ⟨y0, y1, y2, k, hy, _, g0, g1, g2⟩ := Go.Deep.trod_struct3 Try.underlying27 h2
      simp [Try.cells28] at g0 g1 g2
      obtain ⟨x, tx, rfl, rfl, rfl, rfl, -⟩ := trod_wide g0
      obtain ⟨y, ty, rfl, rfl, rfl, rfl, -⟩ := trod_wide g1
      obtain ⟨z, tz, rfl, rfl, rfl, rfl, -⟩ := trod_wide g2
      exact ⟨(x, y, z), ⟨tx, ty, tz⟩, by simpa using e0, by simpa using e1, by simpa using e2, by simpa using e3, by simpa using e4, by simpa using e5, by simpa using e6, by simpa using e7, by simpa using e8, by simpa using e9, by simpa using e10, by simpa using e11⟩
  obtain ⟨q, hq⟩ := Go.Deep.choose_lt each
  obtain ⟨ab, ao, spot⟩ := a
  refine ⟨q, fun i hi => ?_, fun k hk => (hq k (by omega)).1⟩
  have hspot : spot = none := by simpa [Addr.add] using World.cell?_spot (hq 0 (by omega)).2.1
  subst hspot
  obtain ⟨-, c0, c1, c2, c3, c4, c5, c6, c7, c8, c9, c10, c11⟩ := hq i (by omega)
  rw [Addr.add_lit] at c0 c1 c2 c3 c4 c5 c6 c7 c8 c9 c10 c11
  refine ⟨ab, ao, rfl, hlt (.cell ab (ao + i * 12)) (by simp only [MemPlace.row, List.mem_map, List.mem_range]; exact ⟨i * 12, by omega, rfl⟩), fun j hj => ?_⟩
  rcases (show j = 0 ∨ j = 1 ∨ j = 2 ∨ j = 3 ∨ j = 4 ∨ j = 5 ∨ j = 6 ∨ j = 7 ∨ j = 8 ∨ j = 9 ∨ j = 10 ∨ j = 11 by omega) with rfl | rfl | rfl | rfl | rfl | rfl | rfl | rfl | rfl | rfl | rfl | rfl
  · rw [show i * 12 + 0 = i * 12 from rfl, ptW0]; simpa [Nat.add_assoc] using c0
  · rw [show i * 12 + 1 = i * 12 + 1 from rfl, ptW1]; simpa [Nat.add_assoc] using c1
  · rw [show i * 12 + 2 = i * 12 + 2 from rfl, ptW2]; simpa [Nat.add_assoc] using c2
  · rw [show i * 12 + 3 = i * 12 + 3 from rfl, ptW3]; simpa [Nat.add_assoc] using c3
  · rw [show i * 12 + 4 = i * 12 + 4 from rfl, ptW4]; simpa [Nat.add_assoc] using c4
  · rw [show i * 12 + 5 = i * 12 + 5 from rfl, ptW5]; simpa [Nat.add_assoc] using c5
  · rw [show i * 12 + 6 = i * 12 + 6 from rfl, ptW6]; simpa [Nat.add_assoc] using c6
  · rw [show i * 12 + 7 = i * 12 + 7 from rfl, ptW7]; simpa [Nat.add_assoc] using c7
  · rw [show i * 12 + 8 = i * 12 + 8 from rfl, ptW8]; simpa [Nat.add_assoc] using c8
  · rw [show i * 12 + 9 = i * 12 + 9 from rfl, ptW9]; simpa [Nat.add_assoc] using c9
  · rw [show i * 12 + 10 = i * 12 + 10 from rfl, ptW10]; simpa [Nat.add_assoc] using c10
  · rw [show i * 12 + 11 = i * 12 + 11 from rfl, ptW11]; simpa [Nat.add_assoc] using c11
theorem Try.cellsLoop : Try.prog.cellsOf 57 = 1 := by kernel_rfl
theorem Try.cellsPointS : Try.prog.cellsOf 55 = 1 := by kernel_rfl
theorem loops_of {H : Type} {enc : TypeId × Value → H} {W : World} {a : Addr} {len m n : Nat} {D : Nat → DataW H} {Pl : Nat → List MemPlace} (hl : len ≤ m)
    (hx : ∀ i, i < m → ∃ cs', W.cells? 0 (a.add (i * Try.prog.cellsOf 57)) (Try.prog.cellsOf 57) = some cs' ∧ DataW.trod enc Try.prog W 0 (fun _ => true) true n 57 cs' = some (D i, Pl i))
    (hlt : ∀ x ∈ MemPlace.row a (m * Try.prog.cellsOf 57), x.block < W.heap.size) (hlt2 : ∀ i, i < m → ∀ x ∈ Pl i, x.block < W.heap.size) : ∃ (S : Nat → Option Addr × Nat) (L : Nat → Nat) (q : Nat → Qs), LpIn W (some a) len S L q ∧ ToldQ len L q ∧ ∀ i, i < len → L i ≤ 9223372036854775807 := by
  rw [Try.cellsLoop] at hx hlt
  have each : ∀ i, i < m → ∃ r : (Option Addr × Nat) × Nat × Qs, W.cell? (a.add i) = some (.slice r.1.1 r.2.1 r.1.2) ∧ PtIn W r.1.1 r.2.1 r.2.2 ∧ (∀ k, k < r.2.1 → told (r.2.2 k).1 = true ∧ told (r.2.2 k).2.1 = true ∧ told (r.2.2 k).2.2 = true) ∧ r.2.1 ≤ 9223372036854775807 := by
    intro i hi
    obtain ⟨cs', h1, h2⟩ := hx i hi
    obtain ⟨_, hlen, hcell⟩ := World.cells?_some h1
    match cs', hlen with
    | [v0], _ =>
      have e0 := hcell 0 (by omega)
      rw [Go.Deep.add_add] at e0
      simp at e0
      obtain ⟨y0, k, hy, _, g0⟩ := trod_struct1 Try.underlying57 h2
      simp [Try.cellsPointS] at g0
      have hpl : Pl i = y0.2 := by have := congrArg Prod.snd hy; simpa using this
      rcases Go.Deep.open_slice Try.underlying55 g0 with ⟨hcs, -⟩ | ⟨a', len', cap', m', n', D', Pl', hcs, _, hl', hm', hz', hx', hel'⟩
      · simp at hcs
        subst hcs
        exact ⟨((none, 0), 0, fun _ => (0, 0, 0)), e0, fun i hi => absurd hi (Nat.not_lt_zero _), fun k hk => absurd hk (Nat.not_lt_zero _), Nat.zero_le _⟩
      · simp at hcs
        subst hcs
        simp only [if_true] at hz'
        have hb : ∀ x ∈ MemPlace.row a' (m' * Try.prog.cellsOf 27), x.block < W.heap.size := fun x hxx => hlt2 i hi x (by
          rw [hpl, hx']
          exact List.mem_append_left _ hxx)
        obtain ⟨q, hq, ht⟩ := points_of (len := len') (by omega) hel' hb
        exact ⟨((some a', cap'), len', q), e0, hq, ht, by have := hm'; simp [maxLen] at this; show len' ≤ _; omega⟩
  obtain ⟨r, hr⟩ := Go.Deep.choose_lt each
  obtain ⟨ab, ao, spot⟩ := a
  refine ⟨fun i => (r i).1, fun i => (r i).2.1, fun i => (r i).2.2, fun i hi => ?_, fun i hi => (hr i (by omega)).2.2.1, fun i hi => (hr i (by omega)).2.2.2⟩
  have hspot : spot = none := by simpa [Addr.add] using World.cell?_spot (hr 0 (by omega)).1
  subst hspot
  obtain ⟨c0, hp, -, -⟩ := hr i (by omega)
  rw [Addr.add_lit] at c0
  exact ⟨ab, ao, rfl, hlt (.cell ab (ao + i)) (by simp only [MemPlace.row, List.mem_map, List.mem_range]; exact ⟨i, by omega, rfl⟩), c0, hp⟩
set_option maxRecDepth 100000 in
theorem fnExactLoopsSide_lifted (os : Os) (started : os.Started) (H : Type) (enc : TypeId × Value → H) :
    ReturnsInHanded {} Try.checked os 3 .any (Rows.fnExactLoopsSideSpec.pre6 enc Try.prog Try.f3 Rows.fnExactLoopsSideRow.domain false) (Rows.fnExactLoopsSideSpec.post enc Try.prog Try.f3 false true false false) := by
  refine returnsInHanded_of_change (C := Try.checked) Try.own started (by kernel_rfl) Try.func3
    (ChangeSpec.witness6 (enc := enc) (C := Try.checked) false ⟨#[], #[.slice none 0 0, .agg #[.int .u64 0, .int .u64 0, .int .u64 0, .int .u64 0, .int .u64 0, .int .u64 0, .int .u64 0, .int .u64 0, .int .u64 0, .int .u64 0, .int .u64 0, .int .u64 0]], []⟩ 8 (by kernel_rfl) (by kernel_rfl) (by kernel_rfl) (by kernel_rfl)) ?_
  intro W base args ds gs before hval0 hW hcnd _
  have hval : ∀ (j : Nat) t v, Try.f3.params[j]? = some t → args[j]? = some v → Value.okWide Try.prog W .any base t v := hval0
  have hW' := hW
  obtain ⟨p, q, hA0, hV, rfl, hfz, hnd⟩ := hW
  have hA : DataW.TrodAll enc Try.prog W 0 (fun _ => true) true Try.f3.params.toList args.toList ds p := hA0
  rw [Try.params3] at hA hval
  obtain ⟨v0, v1, d0, d1, pl0, pl1, rfl, rfl, rfl, h0, h1⟩ := trodAll_two hA
  obtain ⟨rfl, rfl⟩ := trodVars_none hV
  obtain ⟨x1, y1, z1, rfl, rfl, rfl, tx1, ty1, tz1⟩ := open_point (hval 1 27 v1 rfl rfl) h1
  have h0k := h0
  obtain ⟨fuel, hf⟩ := h0
  clear hA0 hval0
  simp only [List.append_nil] at hW'
  have hlt : ∀ x ∈ pl0, x.block < W.heap.size := fun x hx => by simpa using hW'.lt x hx
  have again : ∀ W' : World, Below W.heap.size W W' → DataW.Trod enc Try.prog W' 0 (fun b => decide (b < W.heap.size)) true 22 v0 d0 pl0 := fun W' hB =>
    Below.trod Try.laidOut (by kernel_rfl) (of_decide_eq_true (by kernel_rfl)) h0k hB hlt
  obtain ⟨a0, len, cap, rfl⟩ := okWide_slice Try.underlying22 (hval 0 22 v0 rfl rfl)
  rcases Go.Deep.open_slice Try.underlying22 hf with ⟨hcs, hx⟩ | ⟨a, len', cap', m, n, D, Pl, hcs, _, hl, hm, hz, hx, hel⟩
  · simp [Value.cells] at hcs
    obtain ⟨rfl, rfl, rfl⟩ := hcs
    simp only [Prod.mk.injEq] at hx
    obtain ⟨rfl, rfl⟩ := hx
    refine (lawLoopsSide_any none 0 0 (fun _ => (none, 0)) (fun _ => 0) (fun _ _ => (0, 0, 0)) x1 y1 z1 tx1 ty1 tz1 (by decide) (fun i hi => by omega) (fun i hi => by omega) W (fun i hi => by omega)).mono fun e W' ⟨he, hB⟩ => ?_
    subst he
    exact ⟨_, rfl, ⟨_, _, _, [], _, [], hW', trodAll_mk1 (shut_bool Try.underlying4 _), trodAll_mk2 (again W' hB) (shut_point x1 y1 z1), rfl, hB.frame _, fun h => by cases h⟩⟩
  · simp [Value.cells] at hcs
    obtain ⟨rfl, rfl, rfl⟩ := hcs
    simp only [Prod.mk.injEq] at hx
    obtain ⟨rfl, rfl⟩ := hx
    simp only [if_true] at hz
    obtain ⟨S, L, q, hS, hT, hL⟩ := loops_of (len := len) (by omega) hel (fun y hy => hlt y (List.mem_append_left _ hy)) (fun i hi y hy => hlt y (List.mem_append_right _ (List.mem_flatMap.2 ⟨i, List.mem_range.2 hi, hy⟩)))
    refine (lawLoopsSide_any (some a) len cap S L q x1 y1 z1 tx1 ty1 tz1 (by have := hm; simp [maxLen] at this; omega) hL hT W hS).mono fun e W' ⟨he, hB⟩ => ?_
    subst he
    exact ⟨_, rfl, ⟨_, _, _, [], _, [], hW', trodAll_mk1 (shut_bool Try.underlying4 _), trodAll_mk2 (again W' hB) (shut_point x1 y1 z1), rfl, hB.frame _, fun h => by cases h⟩⟩
theorem fnExactLoopsSide_j1 : (Rows.fnExactLoopsSideRow.inPlace == Try.pinned.checked.prog.inPlace 3) = true := by kernel_rfl
theorem fnExactLoopsSide_j2 : (Rows.fnExactLoopsSideRow.unfollowed == Try.pinned.checked.prog.unfollowed 3) = true := by kernel_rfl
theorem fnExactLoopsSide_j3 : (Rows.fnExactLoopsSideRow.recurses == Try.pinned.checked.prog.recurses 3) = true := by kernel_rfl
theorem fnExactLoopsSide_j4 : (Rows.fnExactLoopsSideRow.named == Try.pinned.checked.prog.varsNamed 3) = true := by kernel_rfl
theorem fnExactLoopsSide_closed : joinedFacts Try.pinned.checked.prog 3 Try.f3 Rows.fnExactLoopsSideSpec Rows.fnExactLoopsSideRow = true := by
  unfold joinedFacts
  rw [fnExactLoopsSide_j1, fnExactLoopsSide_j2, fnExactLoopsSide_j3, fnExactLoopsSide_j4, jn_laid, jn_maps, jn_enter, jn_heard]
  kernel_rfl
theorem fnExactLoopsSide_holds : Rows.FnExactLoopsSideSaid :=
  OpenClaim.holds_of_wide 3 Try.f3 rfl rfl rfl rfl rfl rfl rfl ⟨rfl, rfl, rfl, rfl, rfl⟩ rfl rfl rfl rfl rfl (by kernel_rfl) Try.func3 fnExactLoopsSide_closed
    (of_decide_eq_true (by kernel_rfl)) (by unfold Func.isWrapper; first | (rw [if_pos (by decide +kernel)]; kernel_rfl) | (rw [if_neg (by decide +kernel)]; exact ⟨rfl, rfl⟩))
    (fun os started H enc _ => fnExactLoopsSide_lifted os started H enc)
#print axioms fnExactLoopsSide_holds
end Go.Proofs.Ytofjlobbohfacaa
