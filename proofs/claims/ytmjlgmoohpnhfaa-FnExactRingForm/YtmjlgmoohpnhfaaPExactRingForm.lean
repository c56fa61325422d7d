/- For every ring the law answers true: what the program tells as the ring's form is what the model tells; the answer owns its memory; no condition. -/
import Derived.Test.YtmjlgmoohpnhfaaFm11
import Derived.SizedLaws
import Derived.Deep.Slices
namespace Go.Proofs.Ytmjlgmoohpnhfaa
open Go.ChangeShapes Go.WideShapes Go.ChangeAt Go.RowKit Go.Joins
theorem Try.laidOut : laidOutB Try.prog = true := by kernel_rfl
theorem Try.cellsSpotL : Try.prog.cellsOf 44 = 2 := by kernel_rfl
theorem Try.cellsRing : Try.prog.cellsOf 24 = 1 := by kernel_rfl
theorem Try.cellsSpotS : Try.prog.cellsOf 22 = 1 := by kernel_rfl
theorem Try.cellsI64 : Try.prog.cellsOf 2 = 1 := by kernel_rfl
theorem spots_of {H : Type} {enc : TypeId × Value → H} {W : World} {a : Addr} {len m n : Nat} {D : Nat → DataW H} {Pl : Nat → List MemPlace} (hl : len ≤ m)
    (hx : ∀ i, i < m → ∃ cs', W.cells? 0 (a.add (i * Try.prog.cellsOf 44)) (Try.prog.cellsOf 44) = some cs' ∧ DataW.trod enc Try.prog W 0 (fun _ => true) true n 44 cs' = some (D i, Pl i))
    (hlt : ∀ x ∈ MemPlace.row a (m * Try.prog.cellsOf 44), x.block < W.heap.size) : ∃ p : Ps, SpIn W (some a) len p := by
  rw [Try.cellsSpotL] at hx hlt
  have each : ∀ i, i < m → ∃ q : Int × Int, W.cell? (a.add (i * 2)) = some (.int .i64 q.1) ∧ W.cell? (a.add (i * 2 + 1)) = some (.int .i64 q.2) := by
    intro i hi
    obtain ⟨cs', h1, h2⟩ := hx i hi
    obtain ⟨_, hlen, hcell⟩ := World.cells?_some h1
    match cs', hlen with
    | [v0, v1], _ =>
      have e0 := hcell 0 (by omega); have e1 := hcell 1 (by omega)
      rw [Go.Deep.add_add] at e0 e1
      obtain ⟨x, y, rfl, rfl, -, -, -⟩ := trod_spot h2
      exact ⟨(x, y), by simpa using e0, by simpa using e1⟩
  obtain ⟨q, hq⟩ := Go.Deep.choose_lt each
  obtain ⟨ab, ao, spot⟩ := a
  refine ⟨q, fun i hi => ?_⟩
  have hspot : spot = none := by simpa [Addr.add] using World.cell?_spot (hq 0 (by omega)).1
  subst hspot
  obtain ⟨c0, c1⟩ := hq i (by omega)
  rw [Addr.add_lit] at c0 c1
  exact ⟨ab, ao, rfl, hlt (.cell ab (ao + i * 2)) (by simp only [MemPlace.row, List.mem_map, List.mem_range]; exact ⟨i * 2, by omega, rfl⟩), c0, by simpa [Nat.add_assoc] using c1⟩
set_option maxRecDepth 100000 in
/-- A ring that is handed in: a slice of spots. -/
theorem open_ring {H : Type} {enc : TypeId × Value → H} {W : World} {base : Nat} {v : Value} {d : DataW H} {pl : List MemPlace} (ok : Value.okWide Try.prog W .any base 24 v) (h : DataW.Trod enc Try.prog W 0 (fun _ => true) true 24 v d pl) (hlt : ∀ x ∈ pl, x.block < W.heap.size) :
    ∃ ao n cap p, v = .agg #[.slice ao n cap] ∧ n ≤ 9223372036854775807 ∧ SpIn W ao n p := by
  obtain ⟨cs, rfl, hsz⟩ := okWide_struct Try.underlying24 ok
  rw [Try.cellsRing] at hsz
  obtain ⟨c0, rfl⟩ : ∃ c0, cs = #[c0] := by
    obtain ⟨l⟩ := cs
    match l, hsz with
    | [c0], _ => exact ⟨c0, rfl⟩
  obtain ⟨fuel, hf⟩ := h
  simp only [Value.cells] at hf
  obtain ⟨y0, k, hy, _, g0⟩ := trod_struct1 Try.underlying24 hf
  simp [Try.cellsSpotS] at g0
  have hpl : pl = y0.2 := by have := congrArg Prod.snd hy; simpa using this
  rcases Go.Deep.open_slice Try.underlying22 g0 with ⟨hcs, -⟩ | ⟨a', len', cap', m', n', D', Pl', hcs, _, hl', hm', hz', hx', hel'⟩
  · simp at hcs
    subst hcs
    exact ⟨none, 0, 0, fun _ => (0, 0), rfl, Nat.zero_le _, fun i hi => absurd hi (Nat.not_lt_zero _)⟩
  · simp at hcs
    subst hcs
    simp only [if_true] at hz'
    have hb : ∀ x ∈ MemPlace.row a' (m' * Try.prog.cellsOf 44), x.block < W.heap.size := fun x hxx => hlt x (by
      rw [hpl, hx']
      exact List.mem_append_left _ hxx)
    obtain ⟨p, hp⟩ := spots_of (len := len') (by omega) hel' hb
    exact ⟨some a', len', cap', p, rfl, by have := hm'; simp [maxLen] at this; omega, hp⟩
set_option maxRecDepth 100000 in
theorem fnExactRingForm_lifted (os : Os) (started : os.Started) (H : Type) (enc : TypeId × Value → H) :
    ReturnsInHanded {} Try.checked os 3 .any (Rows.fnExactRingFormSpec.pre6 enc Try.prog Try.f3 Rows.fnExactRingFormRow.domain false) (Rows.fnExactRingFormSpec.post enc Try.prog Try.f3 false true false false) := by
  refine returnsInHanded_of_change (C := Try.checked) Try.own started (by kernel_rfl) Try.func3
    (ChangeSpec.witness6 (enc := enc) (C := Try.checked) false ⟨#[], #[.agg #[.slice none 0 0]], []⟩ 8 (by kernel_rfl) (by kernel_rfl) (by kernel_rfl) (by kernel_rfl)) ?_
  intro W base args ds gs before hval0 hW hcnd _
  have hval : ∀ (j : Nat) t v, Try.f3.params[j]? = some t → args[j]? = some v → Value.okWide Try.prog W .any base t v := hval0
  have hW' := hW
  obtain ⟨p, q, hA0, hV, rfl, hfz, hnd⟩ := hW
  have hA : DataW.TrodAll enc Try.prog W 0 (fun _ => true) true Try.f3.params.toList args.toList ds p := hA0
  rw [Try.params3] at hA hval
  obtain ⟨v0, d0, rfl, rfl, h0⟩ := trodAll_one hA
  obtain ⟨rfl, rfl⟩ := trodVars_none hV
  have h0k := h0
  clear hA0 hval0
  simp only [List.append_nil] at hW'
  have hlt : ∀ x ∈ p, x.block < W.heap.size := fun x hx => by simpa using hW'.lt x hx
  have again : ∀ W' : World, Below W.heap.size W W' → DataW.Trod enc Try.prog W' 0 (fun b => decide (b < W.heap.size)) true 24 v0 d0 p := fun W' hB =>
    Below.trod Try.laidOut (by kernel_rfl) (of_decide_eq_true (by kernel_rfl)) h0k hB hlt
  obtain ⟨ao, n, cap, q, rfl, hn, hS⟩ := open_ring (hval 0 24 v0 rfl rfl) h0k hlt
  refine (lawRingForm_any ao n cap q hn W hS).mono fun e W' ⟨he, hB⟩ => ?_
  subst he
  exact ⟨_, rfl, ⟨_, _, _, [], _, [], hW', trodAll_mk1 (shut_bool Try.underlying4 _), trodAll_mk1 (again W' hB), rfl, hB.frame _, fun h => by cases h⟩⟩
theorem fnExactRingForm_j1 : (Rows.fnExactRingFormRow.inPlace == Try.pinned.checked.prog.inPlace 3) = true := by kernel_rfl
theorem fnExactRingForm_j2 : (Rows.fnExactRingFormRow.unfollowed == Try.pinned.checked.prog.unfollowed 3) = true := by kernel_rfl
theorem fnExactRingForm_j3 : (Rows.fnExactRingFormRow.recurses == Try.pinned.checked.prog.recurses 3) = true := by kernel_rfl
theorem fnExactRingForm_j4 : (Rows.fnExactRingFormRow.named == Try.pinned.checked.prog.varsNamed 3) = true := by kernel_rfl
theorem fnExactRingForm_closed : joinedFacts Try.pinned.checked.prog 3 Try.f3 Rows.fnExactRingFormSpec Rows.fnExactRingFormRow = true := by
  unfold joinedFacts
  rw [fnExactRingForm_j1, fnExactRingForm_j2, fnExactRingForm_j3, fnExactRingForm_j4, jn_laid, jn_maps, jn_enter, jn_heard]
  kernel_rfl
theorem fnExactRingForm_holds : Rows.FnExactRingFormSaid :=
  OpenClaim.holds_of_wide 3 Try.f3 rfl rfl rfl rfl rfl rfl rfl ⟨rfl, rfl, rfl, rfl, rfl⟩ rfl rfl rfl rfl rfl (by kernel_rfl) Try.func3 fnExactRingForm_closed
    (of_decide_eq_true (by kernel_rfl)) (by unfold Func.isWrapper; first | (rw [if_pos (by decide +kernel)]; kernel_rfl) | (rw [if_neg (by decide +kernel)]; exact ⟨rfl, rfl⟩))
    (fun os started H enc _ => fnExactRingForm_lifted os started H enc)
#print axioms fnExactRingForm_holds
end Go.Proofs.Ytmjlgmoohpnhfaa
