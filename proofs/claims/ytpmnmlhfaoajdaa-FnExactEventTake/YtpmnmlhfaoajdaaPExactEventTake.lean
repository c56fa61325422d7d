/- For every row of events the law answers true: what the program takes off as the first event, and what it leaves, is what the model tells; it writes into no argument, and its answer owns its memory; no condition. -/
import Derived.Test.YtpmnmlhfaoajdaaPart16
import Derived.Test.YtpmnmlhfaoajdaaPart7
import Derived.SizedLaws
import Derived.Deep.Slices
namespace Go.Proofs.Ytpmnmlhfaoajdaa
open Go.ChangeShapes Go.WideShapes Go.ChangeAt Go.RowKit Go.Joins
theorem Try.laidOut : laidOutB Try.prog = true := by kernel_rfl
theorem Try.cellsInt64 : Try.prog.cellsOf 2 = 1 := by kernel_rfl
theorem nos_of {H : Type} {enc : TypeId × Value → H} {W : World} {a : Addr} {len m n : Nat} {D : Nat → DataW H} {Pl : Nat → List MemPlace} (hl : len ≤ m)
    (hx : ∀ i, i < m → ∃ cs', W.cells? 0 (a.add (i * Try.prog.cellsOf 2)) (Try.prog.cellsOf 2) = some cs' ∧ DataW.trod enc Try.prog W 0 (fun _ => true) true n 2 cs' = some (D i, Pl i))
    (hlt : ∀ x ∈ MemPlace.row a (m * Try.prog.cellsOf 2), x.block < W.heap.size) : ∃ x : Nat → Int, NoIn W (some a) len x := by
  rw [Try.cellsInt64] at hx hlt
  have each : ∀ i, i < m → ∃ q : Int, W.cell? (a.add i) = some (.int .i64 q) := by
    intro i hi
    obtain ⟨cs', h1, h2⟩ := hx i hi
    obtain ⟨_, hlen, hcell⟩ := World.cells?_some h1
    match cs', hlen with
    | [v0], _ =>
      have e0 := hcell 0 (by omega)
      rw [Go.Deep.add_add] at e0
      obtain ⟨x, hv, -, -⟩ := DataW.trod_int Try.underlying2 h2
      simp at hv
      subst hv
      exact ⟨x, by simpa using e0⟩
  obtain ⟨q, hq⟩ := Go.Deep.choose_lt each
  obtain ⟨ab, ao, spot⟩ := a
  refine ⟨q, fun i hi => ?_⟩
  have hspot : spot = none := by simpa [Addr.add] using World.cell?_spot (hq 0 (by omega))
  subst hspot
  have c0 := hq i (by omega)
  rw [Addr.add_lit] at c0
  exact ⟨ab, ao, rfl, hlt (.cell ab (ao + i)) (by simp only [MemPlace.row, List.mem_map, List.mem_range]; exact ⟨i, by omega, rfl⟩), c0⟩
theorem Try.cellsEvent : Try.prog.cellsOf 84 = 13 := by kernel_rfl
theorem Try.cellsNoS : Try.prog.cellsOf 42 = 1 := by kernel_rfl
set_option maxRecDepth 100000 in
set_option maxHeartbeats 2000000 in
theorem events_of {H : Type} {enc : TypeId × Value → H} {W : World} {a : Addr} {len m n : Nat} {D : Nat → DataW H} {Pl : Nat → List MemPlace} (hl : len ≤ m)
    (hx : ∀ i, i < m → ∃ cs', W.cells? 0 (a.add (i * Try.prog.cellsOf 84)) (Try.prog.cellsOf 84) = some cs' ∧ DataW.trod enc Try.prog W 0 (fun _ => true) true n 84 cs' = some (D i, Pl i))
    (hlt : ∀ x ∈ MemPlace.row a (m * Try.prog.cellsOf 84), x.block < W.heap.size) (hlt2 : ∀ i, i < m → ∀ x ∈ Pl i, x.block < W.heap.size) : ∃ (q : Nat → Int × Int × Int) (S : Nat → Option Addr × Nat) (L : Nat → Nat) (E : Nat → Nat → Int), EvIn W (some a) len q S L E ∧ (∀ i, i < len → told (q i).1 = true ∧ told (q i).2.1 = true ∧ told (q i).2.2 = true) ∧ ∀ i, i < len → L i ≤ 9223372036854775807 := by
  rw [Try.cellsEvent] at hx hlt
  have each : ∀ i, i < m → ∃ r : (Int × Int × Int) × (Option Addr × Nat) × Nat × (Nat → Int), (told r.1.1 = true ∧ told r.1.2.1 = true ∧ told r.1.2.2 = true) ∧ r.2.2.1 ≤ 9223372036854775807 ∧ NoIn W r.2.1.1 r.2.2.1 r.2.2.2 ∧ W.cell? (a.add (i * 13)) = some (.int .u64 (ww3 r.1.1)) ∧ W.cell? (a.add (i * 13 + 1)) = some (.int .u64 (ww2 r.1.1)) ∧ W.cell? (a.add (i * 13 + 2)) = some (.int .u64 (ww1 r.1.1)) ∧ W.cell? (a.add (i * 13 + 3)) = some (.int .u64 (ww0 r.1.1)) ∧ W.cell? (a.add (i * 13 + 4)) = some (.int .u64 (ww3 r.1.2.1)) ∧ W.cell? (a.add (i * 13 + 5)) = some (.int .u64 (ww2 r.1.2.1)) ∧ W.cell? (a.add (i * 13 + 6)) = some (.int .u64 (ww1 r.1.2.1)) ∧ W.cell? (a.add (i * 13 + 7)) = some (.int .u64 (ww0 r.1.2.1)) ∧ W.cell? (a.add (i * 13 + 8)) = some (.int .u64 (ww3 r.1.2.2)) ∧ W.cell? (a.add (i * 13 + 9)) = some (.int .u64 (ww2 r.1.2.2)) ∧ W.cell? (a.add (i * 13 + 10)) = some (.int .u64 (ww1 r.1.2.2)) ∧ W.cell? (a.add (i * 13 + 11)) = some (.int .u64 (ww0 r.1.2.2)) ∧ W.cell? (a.add (i * 13 + 12)) = some (.slice r.2.1.1 r.2.2.1 r.2.1.2) := by
    intro i hi
    obtain ⟨cs', h1, h2⟩ := hx i hi
    obtain ⟨_, hlen, hcell⟩ := World.cells?_some h1
    match cs', hlen with
    | [v0, v1, v2, v3, v4, v5, v6, v7, v8, v9, v10, v11, v12], _ =>
      have e0 := hcell 0 (by omega); have e1 := hcell 1 (by omega); have e2 := hcell 2 (by omega); have e3 := hcell 3 (by omega); have e4 := hcell 4 (by omega); have e5 := hcell 5 (by omega); have e6 := hcell 6 (by omega); have e7 := hcell 7 (by omega); have e8 := hcell 8 (by omega); have e9 := hcell 9 (by omega); have e10 := hcell 10 (by omega); have e11 := hcell 11 (by omega); have e12 := hcell 12 (by omega)
      rw [Go.Deep.add_add] at e0 e1 e2 e3 e4 e5 e6 e7 e8 e9 e10 e11 e12
      obtain ⟨y0, y1, k, hy, _, g0, g1⟩ := trod_struct2 Try.underlying84 h2
      simp [Try.cellsPoint, Try.cellsNoS] at g0 g1
      obtain ⟨z0, z1, z2, k2, hz, _, k0, k1, k3⟩ := Go.Deep.trod_struct3 Try.underlying82 g0
      simp [Try.cells28] at k0 k1 k3
      obtain ⟨x, tx, rfl, rfl, rfl, rfl, -⟩ := trod_wide k0
      obtain ⟨y, ty, rfl, rfl, rfl, rfl, -⟩ := trod_wide k1
      obtain ⟨z, tz, rfl, rfl, rfl, rfl, -⟩ := trod_wide k3
      have hpl : Pl i = y0.2 ++ y1.2 := by have := congrArg Prod.snd hy; simpa using this
      rcases Go.Deep.open_slice Try.underlying42 g1 with ⟨hcs, -⟩ | ⟨a', len', cap', m', n', D', Pl', hcs, _, hl', hm', hz', hx', hel'⟩
      · simp at hcs
        subst hcs
        exact ⟨((x, y, z), (none, 0), 0, fun _ => 0), ⟨tx, ty, tz⟩, Nat.zero_le _, fun i hi => absurd hi (Nat.not_lt_zero _), by simpa using e0, by simpa using e1, by simpa using e2, by simpa using e3, by simpa using e4, by simpa using e5, by simpa using e6, by simpa using e7, by simpa using e8, by simpa using e9, by simpa using e10, by simpa using e11, by simpa using e12⟩
      · simp at hcs
        subst hcs
        simp only [if_true] at hz'
        have hb : ∀ x ∈ MemPlace.row a' (m' * Try.prog.cellsOf 2), x.block < W.heap.size := fun x hxx => hlt2 i hi x (by
          rw [hpl, hx']
          exact List.mem_append_right _ (List.mem_append_left _ hxx))
        obtain ⟨q, hq⟩ := nos_of (len := len') (by omega) hel' hb
        exact ⟨((x, y, z), (some a', cap'), len', q), ⟨tx, ty, tz⟩, by have := hm'; simp [maxLen] at this; show len' ≤ _; omega, hq, by simpa using e0, by simpa using e1, by simpa using e2, by simpa using e3, by simpa using e4, by simpa using e5, by simpa using e6, by simpa using e7, by simpa using e8, by simpa using e9, by simpa using e10, by simpa using e11, by simpa using e12⟩
  obtain ⟨r, hr⟩ := Go.Deep.choose_lt each
  obtain ⟨ab, ao, spot⟩ := a
  refine ⟨fun i => (r i).1, fun i => (r i).2.1, fun i => (r i).2.2.1, fun i => (r i).2.2.2, fun i hi => ?_, fun i hi => (hr i (by omega)).1, fun i hi => (hr i (by omega)).2.1⟩
  have hspot : spot = none := by simpa [Addr.add] using World.cell?_spot (hr 0 (by omega)).2.2.2.1
  subst hspot
  obtain ⟨-, -, hp, c0, c1, c2, c3, c4, c5, c6, c7, c8, c9, c10, c11, c12⟩ := hr i (by omega)
  rw [Addr.add_lit] at c0 c1 c2 c3 c4 c5 c6 c7 c8 c9 c10 c11 c12
  exact ⟨ab, ao, rfl, hlt (.cell ab (ao + i * 13)) (by simp only [MemPlace.row, List.mem_map, List.mem_range]; exact ⟨i * 13, by omega, rfl⟩), by simpa [Nat.add_assoc] using c0, by simpa [Nat.add_assoc] using c1, by simpa [Nat.add_assoc] using c2, by simpa [Nat.add_assoc] using c3, by simpa [Nat.add_assoc] using c4, by simpa [Nat.add_assoc] using c5, by simpa [Nat.add_assoc] using c6, by simpa [Nat.add_assoc] using c7, by simpa [Nat.add_assoc] using c8, by simpa [Nat.add_assoc] using c9, by simpa [Nat.add_assoc] using c10, by simpa [Nat.add_assoc] using c11, by simpa [Nat.add_assoc] using c12, hp⟩
set_option maxRecDepth 100000 in
theorem fnExactEventTake_lifted (os : Os) (started : os.Started) (H : Type) (enc : TypeId × Value → H) :
    ReturnsInHanded {} Try.checked os 5 .any (Rows.fnExactEventTakeSpec.pre6 enc Try.prog Try.f5 Rows.fnExactEventTakeRow.domain false) (Rows.fnExactEventTakeSpec.post enc Try.prog Try.f5 false true false false) := by
  refine returnsInHanded_of_change (C := Try.checked) Try.own started (by kernel_rfl) Try.func5
    (ChangeSpec.witness6 (enc := enc) (C := Try.checked) false ⟨#[], #[.slice none 0 0], []⟩ 8 (by kernel_rfl) (by kernel_rfl) (by kernel_rfl) (by kernel_rfl)) ?_
  intro W base args ds gs before hval0 hW hcnd _
  have hval : ∀ (j : Nat) t v, Try.f5.params[j]? = some t → args[j]? = some v → Value.okWide Try.prog W .any base t v := hval0
  have hW' := hW
  obtain ⟨p, q, hA0, hV, rfl, hfz, hnd⟩ := hW
  have hA : DataW.TrodAll enc Try.prog W 0 (fun _ => true) true Try.f5.params.toList args.toList ds p := hA0
  rw [Try.params5] at hA hval
  obtain ⟨v0, d0, rfl, rfl, h0⟩ := trodAll_one hA
  obtain ⟨rfl, rfl⟩ := trodVars_none hV
  have h0k := h0
  obtain ⟨fuel, hf⟩ := h0
  clear hA0 hval0
  simp only [List.append_nil] at hW'
  have hlt : ∀ x ∈ p, x.block < W.heap.size := fun x hx => by simpa using hW'.lt x hx
  have again : ∀ W' : World, Below W.heap.size W W' → DataW.Trod enc Try.prog W' 0 (fun b => decide (b < W.heap.size)) true 35 v0 d0 p := fun W' hB =>
    Below.trod Try.laidOut (by kernel_rfl) (of_decide_eq_true (by kernel_rfl)) h0k hB hlt
  obtain ⟨a0, len, cap, rfl⟩ := okWide_slice Try.underlying35 (hval 0 35 v0 rfl rfl)
  rcases Go.Deep.open_slice Try.underlying35 hf with ⟨hcs, hx⟩ | ⟨a, len', cap', m, n, D, Pl, hcs, _, hl, hm, hz, hx, hel⟩
  · simp [Value.cells] at hcs
    obtain ⟨rfl, rfl, rfl⟩ := hcs
    simp only [Prod.mk.injEq] at hx
    obtain ⟨rfl, rfl⟩ := hx
    refine (lawTake_any none 0 0 (fun _ => (0, 0, 0)) (fun _ => (none, 0)) (fun _ => 0) (fun _ _ => 0) (by decide) (fun i hi => by omega) (fun i hi => by omega) W (fun i hi => by omega)).mono fun e W' ⟨he, hB⟩ => ?_
    subst he
    exact ⟨_, rfl, ⟨_, _, _, [], _, [], hW', trodAll_mk1 (shut_bool Try.underlying4 _), trodAll_mk1 (again W' hB), rfl, hB.frame _, fun h => by cases h⟩⟩
  · simp [Value.cells] at hcs
    obtain ⟨rfl, rfl, rfl⟩ := hcs
    simp only [Prod.mk.injEq] at hx
    obtain ⟨rfl, rfl⟩ := hx
    simp only [if_true] at hz
    obtain ⟨q, S, L, E, hS, hT, hL⟩ := events_of (len := len) (by omega) hel (fun y hy => hlt y (List.mem_append_left _ hy)) (fun i hi y hy => hlt y (List.mem_append_right _ (List.mem_flatMap.2 ⟨i, List.mem_range.2 hi, hy⟩)))
    refine (lawTake_any (some a) len cap q S L E (by have := hm; simp [maxLen] at this; omega) hL hT W hS).mono fun e W' ⟨he, hB⟩ => ?_
    subst he
    exact ⟨_, rfl, ⟨_, _, _, [], _, [], hW', trodAll_mk1 (shut_bool Try.underlying4 _), trodAll_mk1 (again W' hB), rfl, hB.frame _, fun h => by cases h⟩⟩
theorem fnExactEventTake_j1 : (Rows.fnExactEventTakeRow.inPlace == Try.pinned.checked.prog.inPlace 5) = true := by kernel_rfl
theorem fnExactEventTake_j2 : (Rows.fnExactEventTakeRow.unfollowed == Try.pinned.checked.prog.unfollowed 5) = true := by kernel_rfl
theorem fnExactEventTake_j3 : (Rows.fnExactEventTakeRow.recurses == Try.pinned.checked.prog.recurses 5) = true := by kernel_rfl
theorem fnExactEventTake_j4 : (Rows.fnExactEventTakeRow.named == Try.pinned.checked.prog.varsNamed 5) = true := by kernel_rfl
theorem fnExactEventTake_closed : joinedFacts Try.pinned.checked.prog 5 Try.f5 Rows.fnExactEventTakeSpec Rows.fnExactEventTakeRow = true := by
  unfold joinedFacts
  rw [fnExactEventTake_j1, fnExactEventTake_j2, fnExactEventTake_j3, fnExactEventTake_j4, jn_laid, jn_maps, jn_enter, jn_heard]
  kernel_rfl
theorem fnExactEventTake_holds : Rows.FnExactEventTakeSaid :=
  OpenClaim.holds_of_wide 5 Try.f5 rfl rfl rfl rfl rfl rfl rfl ⟨rfl, rfl, rfl, rfl, rfl⟩ rfl rfl rfl rfl rfl (by kernel_rfl) Try.func5 fnExactEventTake_closed
    (of_decide_eq_true (by kernel_rfl)) (by unfold Func.isWrapper; first | (rw [if_pos (by decide +kernel)]; kernel_rfl) | (rw [if_neg (by decide +kernel)]; exact ⟨rfl, rfl⟩))
    (fun os started H enc _ => fnExactEventTake_lifted os started H enc)
#print axioms fnExactEventTake_holds
end Go.Proofs.Ytpmnmlhfaoajdaa
