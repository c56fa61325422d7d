/- Part 23 of the walks that the proof leans on. -/
import Derived.Test.YtibbjjlapglndaaGreatRz22
import Derived.SizedLaws
import Derived.Deep.Slices
import Derived.Test.YtibbjjlapglndaaGreatRows
import Derived.ProofKit
import Derived.Lib.SmallJoins
/- How rings, and rows of rings, read as data. -/
namespace Go.Proofs.YtibbjjlapglndaaGreat
open Go.ChangeShapes Go.WideShapes Go.ChangeAt Go.RowKit Go.Joins
theorem Tryz.laidOut : laidOutB Tryz.prog = true := by kernel_rfl
theorem Tryz.cellsSpotL : Tryz.prog.cellsOf 90 = 2 := by kernel_rfl
theorem Tryz.cellsRing : Tryz.prog.cellsOf 24 = 1 := by kernel_rfl
theorem Tryz.cellsSpotS : Tryz.prog.cellsOf 22 = 1 := by kernel_rfl
theorem spots_of {H : Type} {enc : TypeId × Value → H} {W : World} {a : Addr} {len m n : Nat} {D : Nat → DataW H} {Pl : Nat → List MemPlace} (hl : len ≤ m)
    (hx : ∀ i, i < m → ∃ cs', W.cells? 0 (a.add (i * Tryz.prog.cellsOf 90)) (Tryz.prog.cellsOf 90) = some cs' ∧ DataW.trod enc Tryz.prog W 0 (fun _ => true) true n 90 cs' = some (D i, Pl i))
    (hlt : ∀ x ∈ MemPlace.row a (m * Tryz.prog.cellsOf 90), x.block < W.heap.size) : ∃ p : Ps, SpIn W (some a) len p := by
  rw [Tryz.cellsSpotL] at hx hlt
  have each : ∀ i, i < m → ∃ q : Int × Int, W.cell? (a.add (i * 2)) = some (.int .i64 q.1) ∧ W.cell? (a.add (i * 2 + 1)) = some (.int .i64 q.2) := by
    intro i hi
    obtain ⟨cs', h1, h2⟩ := hx i hi
    obtain ⟨_, hlen, hcell⟩ := World.cells?_some h1
    match cs', hlen with
    | [v0, v1], _ =>
      have e0 := hcell 0 (by omega); have e1 := hcell 1 (by omega)
      rw [Go.Deep.add_add] at e0 e1
      obtain ⟨x, y, rfl, rfl, -, -, -⟩ := trod_spot h2
      exact ⟨(x, y), by simpa using e0, by simpa using e1⟩
  obtain ⟨q, hq⟩ := Go.Deep.choose_lt each
  obtain ⟨ab, ao, spot⟩ := a
  refine ⟨q, fun i hi => ?_⟩
  have hspot : spot = none := by simpa [Addr.add] using World.cell?_spot (hq 0 (by omega)).1
  subst hspot
  obtain ⟨c0, c1⟩ := hq i (by omega)
  rw [Addr.add_lit] at c0 c1
  exact ⟨ab, ao, rfl, hlt (.cell ab (ao + i * 2)) (by simp only [MemPlace.row, List.mem_map, List.mem_range]; exact ⟨i * 2, by omega, rfl⟩), c0, by simpa [Nat.add_assoc] using c1⟩
set_option maxRecDepth 100000 in
/-- A ring that is handed in: a slice of spots. -/
theorem open_ring {H : Type} {enc : TypeId × Value → H} {W : World} {base : Nat} {v : Value} {d : DataW H} {pl : List MemPlace} (ok : Value.okWide Tryz.prog W .any base 24 v) (h : DataW.Trod enc Tryz.prog W 0 (fun _ => true) true 24 v d pl) (hlt : ∀ x ∈ pl, x.block < W.heap.size) :
    ∃ ao n cap p, v = .agg #[.slice ao n cap] ∧ n ≤ 9223372036854775807 ∧ SpIn W ao n p := by
  obtain ⟨cs, rfl, hsz⟩ := okWide_struct Tryz.underlying24 ok
  rw [Tryz.cellsRing] at hsz
  obtain ⟨c0, rfl⟩ : ∃ c0, cs = #[c0] := by
    obtain ⟨l⟩ := cs
    match l, hsz with
    | [c0], _ => exact ⟨c0, rfl⟩
  obtain ⟨fuel, hf⟩ := h
  simp only [Value.cells] at hf
  obtain ⟨y0, k, hy, _, g0⟩ := trod_struct1 Tryz.underlying24 hf
  simp [Tryz.cellsSpotS] at g0
  have hpl : pl = y0.2 := by have := congrArg Prod.snd hy; simpa using this
  rcases Go.Deep.open_slice Tryz.underlying22 g0 with ⟨hcs, -⟩ | ⟨a', len', cap', m', n', D', Pl', hcs, _, hl', hm', hz', hx', hel'⟩
  · simp at hcs
    subst hcs
    exact ⟨none, 0, 0, fun _ => (0, 0), rfl, Nat.zero_le _, fun i hi => absurd hi (Nat.not_lt_zero _)⟩
  · simp at hcs
    subst hcs
    simp only [if_true] at hz'
    have hb : ∀ x ∈ MemPlace.row a' (m' * Tryz.prog.cellsOf 90), x.block < W.heap.size := fun x hxx => hlt x (by
      rw [hpl, hx']
      exact List.mem_append_left _ hxx)
    obtain ⟨p, hp⟩ := spots_of (len := len') (by omega) hel' hb
    exact ⟨some a', len', cap', p, rfl, by have := hm'; simp [maxLen] at this; omega, hp⟩
theorem rings_of {H : Type} {enc : TypeId × Value → H} {W : World} {a : Addr} {len m n : Nat} {D : Nat → DataW H} {Pl : Nat → List MemPlace} (hl : len ≤ m)
    (hx : ∀ i, i < m → ∃ cs', W.cells? 0 (a.add (i * Tryz.prog.cellsOf 24)) (Tryz.prog.cellsOf 24) = some cs' ∧ DataW.trod enc Tryz.prog W 0 (fun _ => true) true n 24 cs' = some (D i, Pl i))
    (hlt : ∀ x ∈ MemPlace.row a (m * Tryz.prog.cellsOf 24), x.block < W.heap.size) (hlt2 : ∀ i, i < m → ∀ x ∈ Pl i, x.block < W.heap.size) : ∃ (S : Nat → Option Addr × Nat) (L : Nat → Nat) (q : Nat → Ps), RgIn W (some a) len S L q ∧ ∀ i, i < len → L i ≤ 9223372036854775807 := by
  rw [Tryz.cellsRing] at hx hlt
  have each : ∀ i, i < m → ∃ r : (Option Addr × Nat) × Nat × Ps, W.cell? (a.add i) = some (.slice r.1.1 r.2.1 r.1.2) ∧ SpIn W r.1.1 r.2.1 r.2.2 ∧ r.2.1 ≤ 9223372036854775807 := by
    intro i hi
    obtain ⟨cs', h1, h2⟩ := hx i hi
    obtain ⟨_, hlen, hcell⟩ := World.cells?_some h1
    match cs', hlen with
    | [v0], _ =>
      have e0 := hcell 0 (by omega)
      rw [Go.Deep.add_add] at e0
      simp at e0
      obtain ⟨y0, k, hy, _, g0⟩ := trod_struct1 Tryz.underlying24 h2
      simp [Tryz.cellsSpotS] at g0
      have hpl : Pl i = y0.2 := by have := congrArg Prod.snd hy; simpa using this
      rcases Go.Deep.open_slice Tryz.underlying22 g0 with ⟨hcs, -⟩ | ⟨a', len', cap', m', n', D', Pl', hcs, _, hl', hm', hz', hx', hel'⟩
      · simp at hcs
        subst hcs
        exact ⟨((none, 0), 0, fun _ => (0, 0)), e0, fun i hi => absurd hi (Nat.not_lt_zero _), Nat.zero_le _⟩
      · simp at hcs
        subst hcs
        simp only [if_true] at hz'
        have hb : ∀ x ∈ MemPlace.row a' (m' * Tryz.prog.cellsOf 90), x.block < W.heap.size := fun x hxx => hlt2 i hi x (by
          rw [hpl, hx']
          exact List.mem_append_left _ hxx)
        obtain ⟨p, hp⟩ := spots_of (len := len') (by omega) hel' hb
        exact ⟨((some a', cap'), len', p), e0, hp, by show len' ≤ _; have := hm'; simp [maxLen] at this; omega⟩
  obtain ⟨r, hr⟩ := Go.Deep.choose_lt each
  obtain ⟨ab, ao, spot⟩ := a
  refine ⟨fun i => (r i).1, fun i => (r i).2.1, fun i => (r i).2.2, fun i hi => ?_, fun i hi => (hr i (by omega)).2.2⟩
  have hspot : spot = none := by simpa [Addr.add] using World.cell?_spot (hr 0 (by omega)).1
  subst hspot
  have c0 := (hr i (by omega)).1
  rw [Addr.add_lit] at c0
  exact ⟨ab, ao, rfl, hlt (.cell ab (ao + i)) (by simp only [MemPlace.row, List.mem_map, List.mem_range]; exact ⟨i, by omega, rfl⟩), c0, (hr i (by omega)).2.1⟩
set_option maxRecDepth 100000 in
/-- A row of rings that is handed in. -/
theorem open_rings {H : Type} {enc : TypeId × Value → H} {W : World} {base : Nat} {v : Value} {d : DataW H} {pl : List MemPlace} (ok : Value.okWide Tryz.prog W .any base 43 v) (h : DataW.Trod enc Tryz.prog W 0 (fun _ => true) true 43 v d pl) (hlt : ∀ x ∈ pl, x.block < W.heap.size) :
    ∃ ao n cap S L q, v = .slice ao n cap ∧ n ≤ 9223372036854775807 ∧ (∀ i, i < n → L i ≤ 9223372036854775807) ∧ RgIn W ao n S L q := by
  obtain ⟨a0, len, cap, rfl⟩ := okWide_slice Tryz.underlying43 ok
  obtain ⟨fuel, hf⟩ := h
  rcases Go.Deep.open_slice Tryz.underlying43 hf with ⟨hcs, hx⟩ | ⟨a, len', cap', m, n, D, Pl, hcs, _, hl, hm, hz, hx, hel⟩
  · simp [Value.cells] at hcs
    obtain ⟨rfl, rfl, rfl⟩ := hcs
    exact ⟨none, 0, 0, fun _ => (none, 0), fun _ => 0, fun _ _ => (0, 0), rfl, by omega, fun i hi => by omega, fun i hi => by omega⟩
  · simp [Value.cells] at hcs
    obtain ⟨rfl, rfl, rfl⟩ := hcs
    simp only [Prod.mk.injEq] at hx
    obtain ⟨rfl, rfl⟩ := hx
    simp only [if_true] at hz
    obtain ⟨S, L, q, hS, hL⟩ := rings_of (len := len) (by omega) hel (fun y hy => hlt y (List.mem_append_left _ hy)) (fun i hi y hy => hlt y (List.mem_append_right _ (List.mem_flatMap.2 ⟨i, List.mem_range.2 hi, hy⟩)))
    exact ⟨some a, len, cap, S, L, q, rfl, by have := hm; simp [maxLen] at this; omega, hL, hS⟩
end Go.Proofs.YtibbjjlapglndaaGreat

/- What the row of a law asks of the program as a whole, each by itself. -/
namespace Go.Proofs.YtibbjjlapglndaaGreat
open Go.ChangeShapes Go.WideShapes Go.ChangeAt Go.RowKit Go.Joins
theorem jn_laid : laidOutB Tryz.pinned.checked.prog = true := by kernel_rfl
theorem jn_maps : mapsRowed Tryz.pinned.checked.prog = true := by kernel_rfl
theorem jn_enter : Tryz.pinned.checked.prog.mayEnter = true := by kernel_rfl
theorem jn_heard : Tryz.pinned.checked.prog.stopsHeard = true := by kernel_rfl
end Go.Proofs.YtibbjjlapglndaaGreat
