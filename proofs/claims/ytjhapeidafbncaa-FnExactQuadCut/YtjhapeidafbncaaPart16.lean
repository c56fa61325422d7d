/- Part 16 of the walks that the proof leans on. -/
import Derived.Test.YtjhapeidafbncaaPart13
import Derived.Test.YtjhapeidafbncaaPart15
import Derived.Lib.SmallJoins
import Derived.SizedLaws
import Derived.Deep.Slices
import Derived.Test.YtjhapeidafbncaaRows
import Derived.ProofKit
namespace Go.Proofs.Ytjhapeidafbncaa
open Go.ChangeShapes Go.WideShapes Go.ChangeAt Go.RowKit Go.Joins
theorem Try.laidOut : laidOutB Try.prog = true := by kernel_rfl
theorem Try.cellsInt64 : Try.prog.cellsOf 2 = 1 := by kernel_rfl
theorem Try.cellsBool : Try.prog.cellsOf 4 = 1 := by kernel_rfl
theorem Try.cellsNoS : Try.prog.cellsOf 53 = 1 := by kernel_rfl
theorem Try.cellsItem : Try.prog.cellsOf 116 = 5 := by kernel_rfl
theorem Try.cellsBlock : Try.prog.cellsOf 104 = 5 := by kernel_rfl
theorem Try.cellsQuad : Try.prog.cellsOf 25 = 4 := by kernel_rfl
theorem Try.cellsItemS : Try.prog.cellsOf 22 = 1 := by kernel_rfl
theorem Try.cellsBlockS : Try.prog.cellsOf 23 = 1 := by kernel_rfl
theorem trod_struct5 {P : Program} {H : Type} {enc : TypeId × Value → H} {w : World} {base : Nat} {spare : Nat → Bool} {held : Bool} {t : TypeId} {f0 f1 f2 f3 f4 : Field} {fuel : Nat} {cs : List Value} {x : DataW H × List MemPlace} (ht : P.underlying t = some (.struct #[f0, f1, f2, f3, f4])) (h : DataW.trod enc P w base spare held fuel t cs = some x) :
   ∃ y0 y1 y2 y3 y4 n, x = (.agg [y0.1, y1.1, y2.1, y3.1, y4.1], y0.2 ++ (y1.2 ++ (y2.2 ++ (y3.2 ++ y4.2)))) ∧ cs.length = P.cellsOf t ∧ DataW.trod enc P w base spare held n f0.type ((cs.drop f0.offset).take (P.cellsOf f0.type)) = some y0 ∧
     DataW.trod enc P w base spare held n f1.type ((cs.drop f1.offset).take (P.cellsOf f1.type)) = some y1 ∧ DataW.trod enc P w base spare held n f2.type ((cs.drop f2.offset).take (P.cellsOf f2.type)) = some y2 ∧
     DataW.trod enc P w base spare held n f3.type ((cs.drop f3.offset).take (P.cellsOf f3.type)) = some y3 ∧ DataW.trod enc P w base spare held n f4.type ((cs.drop f4.offset).take (P.cellsOf f4.type)) = some y4 := by
 obtain ⟨xs, n, _, rfl, hl, hlen, hf⟩ := DataW.trod_struct ht h
 match xs, hlen with
 | [y0, y1, y2, y3, y4], _ => exact ⟨y0, y1, y2, y3, y4, n, by simp, hl, by simpa using hf 0 f0 rfl, by simpa using hf 1 f1 rfl, by simpa using hf 2 f2 rfl, by simpa using hf 3 f3 rfl, by simpa using hf 4 f4 rfl⟩
theorem nos_of {H : Type} {enc : TypeId × Value → H} {W : World} {a : Addr} {len m n : Nat} {D : Nat → DataW H} {Pl : Nat → List MemPlace} (hl : len ≤ m)
   (hx : ∀ i, i < m → ∃ cs', W.cells? 0 (a.add (i * Try.prog.cellsOf 2)) (Try.prog.cellsOf 2) = some cs' ∧ DataW.trod enc Try.prog W 0 (fun _ => true) true n 2 cs' = some (D i, Pl i))
   (hlt : ∀ x ∈ MemPlace.row a (m * Try.prog.cellsOf 2), x.block < W.heap.size) : ∃ x : Nat → Int, NoIn W (some a) len x := by
 rw [Try.cellsInt64] at hx hlt
 have each : ∀ i, i < m → ∃ q : Int, W.cell? (a.add i) = some (.int .i64 q) := by
   intro i hi
   obtain ⟨cs', h1, h2⟩ := hx i hi
   obtain ⟨_, hlen, hcell⟩ := World.cells?_some h1
   match cs', hlen with
   | [v0], _ =>
     have e0 := hcell 0 (by omega)
     rw [Go.Deep.add_add] at e0
     obtain ⟨x, hv, -, -⟩ := DataW.trod_int Try.underlying2 h2
     simp at hv
     subst hv
     exact ⟨x, by simpa using e0⟩
 obtain ⟨q, hq⟩ := Go.Deep.choose_lt each
 obtain ⟨ab, ao, spot⟩ := a
 refine ⟨q, fun i hi => ?_⟩
 have hspot : spot = none := by simpa [Addr.add] using World.cell?_spot (hq 0 (by omega))
 subst hspot
 have c0 := hq i (by omega)
 rw [Addr.add_lit] at c0
 exact ⟨ab, ao, rfl, hlt (.cell ab (ao + i)) (by simp only [MemPlace.row, List.mem_map, List.mem_range]; exact ⟨i, by omega, rfl⟩), c0⟩
theorem items_of {H : Type} {enc : TypeId × Value → H} {W : World} {a : Addr} {len m n : Nat} {D : Nat → DataW H} {Pl : Nat → List MemPlace} (hl : len ≤ m)
   (hx : ∀ i, i < m → ∃ cs', W.cells? 0 (a.add (i * Try.prog.cellsOf 116)) (Try.prog.cellsOf 116) = some cs' ∧ DataW.trod enc Try.prog W 0 (fun _ => true) true n 116 cs' = some (D i, Pl i))
   (hlt : ∀ x ∈ MemPlace.row a (m * Try.prog.cellsOf 116), x.block < W.heap.size) : ∃ q : Nat → Int × Int × Int × Int × Int, ∀ i, i < len → ∃ A off, some a = some ⟨A, off, none⟩ ∧ A < W.heap.size ∧ W.cell? ⟨A, off + i * 5, none⟩ = some (.int .i64 (q i).1) ∧ W.cell? ⟨A, off + i * 5 + 1, none⟩ = some (.int .i64 (q i).2.1) ∧ W.cell? ⟨A, off + i * 5 + 2, none⟩ = some (.int .i64 (q i).2.2.1) ∧ W.cell? ⟨A, off + i * 5 + 3, none⟩ = some (.int .i64 (q i).2.2.2.1) ∧ W.cell? ⟨A, off + i * 5 + 4, none⟩ = some (.int .i64 (q i).2.2.2.2) := by
 rw [Try.cellsItem] at hx hlt
 have each : ∀ i, i < m → ∃ q : Int × Int × Int × Int × Int, W.cell? (a.add (i * 5)) = some (.int .i64 q.1) ∧ W.cell? (a.add (i * 5 + 1)) = some (.int .i64 q.2.1) ∧ W.cell? (a.add (i * 5 + 2)) = some (.int .i64 q.2.2.1) ∧ W.cell? (a.add (i * 5 + 3)) = some (.int .i64 q.2.2.2.1) ∧ W.cell? (a.add (i * 5 + 4)) = some (.int .i64 q.2.2.2.2) := by
   intro i hi
   obtain ⟨cs', h1, h2⟩ := hx i hi
   obtain ⟨_, hlen, hcell⟩ := World.cells?_some h1
   match cs', hlen with
   | [v0, v1, v2, v3, v4], _ =>
     have e0 := hcell 0 (by omega); have e1 := hcell 1 (by omega); have e2 := hcell 2 (by omega); have e3 := hcell 3 (by omega); have e4 := hcell 4 (by omega)
     rw [Go.Deep.add_add] at e0 e1 e2 e3 e4
     obtain ⟨y0, y1, k, hy, _, g0, g1⟩ := trod_struct2 Try.underlying116 h2
     simp [Try.cellsInt64, Try.cellsSeg] at g0 g1
     obtain ⟨x, hv, -, -⟩ := DataW.trod_int Try.underlying2 g0
     simp at hv
     subst hv
     obtain ⟨z0, z1, k2, hz, _, k0, k1⟩ := trod_struct2 Try.underlying29 g1
     simp [Try.cellsSpot] at k0 k1
     obtain ⟨p, q, rfl, rfl, -, -, -⟩ := trod_spot k0
     obtain ⟨r, s, rfl, rfl, -, -, -⟩ := trod_spot k1
     exact ⟨(x, p, q, r, s), by simpa using e0, by simpa using e1, by simpa using e2, by simpa using e3, by simpa using e4⟩
 obtain ⟨q, hq⟩ := Go.Deep.choose_lt each
 obtain ⟨ab, ao, spot⟩ := a
 refine ⟨q, fun i hi => ?_⟩
 have hspot : spot = none := by simpa [Addr.add] using World.cell?_spot (hq 0 (by omega)).1
 subst hspot
 obtain ⟨c0, c1, c2, c3, c4⟩ := hq i (by omega)
 rw [Addr.add_lit] at c0 c1 c2 c3 c4
 exact ⟨ab, ao, rfl, hlt (.cell ab (ao + i * 5)) (by simp only [MemPlace.row, List.mem_map, List.mem_range]; exact ⟨i * 5, by omega, rfl⟩), c0, by simpa [Nat.add_assoc] using c1, by simpa [Nat.add_assoc] using c2, by simpa [Nat.add_assoc] using c3, by simpa [Nat.add_assoc] using c4⟩
set_option maxRecDepth 100000 in
set_option maxHeartbeats 2000000 in
theorem blocks_of {H : Type} {enc : TypeId × Value → H} {W : World} {a : Addr} {len m n : Nat} {D : Nat → DataW H} {Pl : Nat → List MemPlace} (hl : len ≤ m)
   (hx : ∀ i, i < m → ∃ cs', W.cells? 0 (a.add (i * Try.prog.cellsOf 104)) (Try.prog.cellsOf 104) = some cs' ∧ DataW.trod enc Try.prog W 0 (fun _ => true) true n 104 cs' = some (D i, Pl i))
   (hlt : ∀ x ∈ MemPlace.row a (m * Try.prog.cellsOf 104), x.block < W.heap.size) (hlt2 : ∀ i, i < m → ∀ x ∈ Pl i, x.block < W.heap.size) : ∃ (A off : Nat) (q : Nat → Int × Int × Int × Bool) (S : Nat → Option Addr × Nat) (L : Nat → Nat) (E : Nat → Nat → Int), (0 < len → some a = some ⟨A, off, none⟩) ∧ (∀ i, i < len → L i ≤ 9223372036854775807) ∧ ∀ i, i < len → A < W.heap.size ∧ W.cell? ⟨A, off + i * 5, none⟩ = some (.int .i64 (q i).1) ∧ W.cell? ⟨A, off + i * 5 + 1, none⟩ = some (.int .i64 (q i).2.1) ∧ W.cell? ⟨A, off + i * 5 + 2, none⟩ = some (.int .i64 (q i).2.2.1) ∧ W.cell? ⟨A, off + i * 5 + 3, none⟩ = some (.bool (q i).2.2.2) ∧ W.cell? ⟨A, off + i * 5 + 4, none⟩ = some (.slice (S i).1 (L i) (S i).2) ∧ NoIn W (S i).1 (L i) (E i) := by
 rw [Try.cellsBlock] at hx hlt
 have each : ∀ i, i < m → ∃ r : (Int × Int × Int × Bool) × (Option Addr × Nat) × Nat × (Nat → Int), r.2.2.1 ≤ 9223372036854775807 ∧ NoIn W r.2.1.1 r.2.2.1 r.2.2.2 ∧ W.cell? (a.add (i * 5)) = some (.int .i64 r.1.1) ∧ W.cell? (a.add (i * 5 + 1)) = some (.int .i64 r.1.2.1) ∧ W.cell? (a.add (i * 5 + 2)) = some (.int .i64 r.1.2.2.1) ∧ W.cell? (a.add (i * 5 + 3)) = some (.bool r.1.2.2.2) ∧ W.cell? (a.add (i * 5 + 4)) = some (.slice r.2.1.1 r.2.2.1 r.2.1.2) := by
   intro i hi
   obtain ⟨cs', h1, h2⟩ := hx i hi
   obtain ⟨_, hlen, hcell⟩ := World.cells?_some h1
   match cs', hlen with
   | [v0, v1, v2, v3, v4], _ =>
     have e0 := hcell 0 (by omega); have e1 := hcell 1 (by omega); have e2 := hcell 2 (by omega); have e3 := hcell 3 (by omega); have e4 := hcell 4 (by omega)
     rw [Go.Deep.add_add] at e0 e1 e2 e3 e4
     obtain ⟨y0, y1, y2, y3, y4, k, hy, _, g0, g1, g2, g3, g4⟩ := trod_struct5 Try.underlying104 h2
     simp [Try.cellsInt64, Try.cellsBool, Try.cellsNoS] at g0 g1 g2 g3 g4
     obtain ⟨x, hv, -, -⟩ := DataW.trod_int Try.underlying2 g0
     simp at hv
     subst hv
     obtain ⟨y, hv, -, -⟩ := DataW.trod_int Try.underlying2 g1
     simp at hv
     subst hv
     obtain ⟨z, hv, -, -⟩ := DataW.trod_int Try.underlying2 g2
     simp at hv
     subst hv
     obtain ⟨t, hv, -⟩ := DataW.trod_bool Try.underlying4 g3
     simp at hv
     subst hv
     have hpl : Pl i = y0.2 ++ (y1.2 ++ (y2.2 ++ (y3.2 ++ y4.2))) := by have := congrArg Prod.snd hy; simpa using this
     rcases Go.Deep.open_slice Try.underlying53 g4 with ⟨hcs, -⟩ | ⟨a', len', cap', m', n', D', Pl', hcs, _, hl', hm', hz', hx', hel'⟩
     · simp at hcs
       subst hcs
       exact ⟨((x, y, z, t), (none, 0), 0, fun _ => 0), Nat.zero_le _, fun i hi => absurd hi (Nat.not_lt_zero _), by simpa using e0, by simpa using e1, by simpa using e2, by simpa using e3, by simpa using e4⟩
     · simp at hcs
       subst hcs
       simp only [if_true] at hz'
       have hb : ∀ x ∈ MemPlace.row a' (m' * Try.prog.cellsOf 2), x.block < W.heap.size := fun x hxx => hlt2 i hi x (by
         rw [hpl, hx']
         exact List.mem_append_right _ (List.mem_append_right _ (List.mem_append_right _ (List.mem_append_right _ (List.mem_append_left _ hxx)))))
       obtain ⟨q, hq⟩ := nos_of (len := len') (by omega) hel' hb
       exact ⟨((x, y, z, t), (some a', cap'), len', q), by have := hm'; simp [maxLen] at this; show len' ≤ _; omega, hq, by simpa using e0, by simpa using e1, by simpa using e2, by simpa using e3, by simpa using e4⟩
 obtain ⟨r, hr⟩ := Go.Deep.choose_lt each
 obtain ⟨ab, ao, spot⟩ := a
 refine ⟨ab, ao, fun i => (r i).1, fun i => (r i).2.1, fun i => (r i).2.2.1, fun i => (r i).2.2.2, fun h => ?_, fun i hi => (hr i (by omega)).1, fun i hi => ?_⟩
 · have hspot : spot = none := by simpa [Addr.add] using World.cell?_spot (hr 0 (by omega)).2.2.1
   subst hspot
   rfl
 have hspot : spot = none := by simpa [Addr.add] using World.cell?_spot (hr 0 (by omega)).2.2.1
 subst hspot
 obtain ⟨-, hp, c0, c1, c2, c3, c4⟩ := hr i (by omega)
 rw [Addr.add_lit] at c0 c1 c2 c3 c4
 exact ⟨hlt (.cell ab (ao + i * 5)) (by simp only [MemPlace.row, List.mem_map, List.mem_range]; exact ⟨i * 5, by omega, rfl⟩), c0, by simpa [Nat.add_assoc] using c1, by simpa [Nat.add_assoc] using c2, by simpa [Nat.add_assoc] using c3, by simpa [Nat.add_assoc] using c4, hp⟩
set_option maxRecDepth 100000 in
set_option maxHeartbeats 2000000 in
theorem open_quad {H : Type} {enc : TypeId × Value → H} {W : World} {base : Nat} {v : Value} {d : DataW H} {pl : List MemPlace} (ok : Value.okWide Try.prog W .any base 25 v) (h : DataW.Trod enc Try.prog W 0 (fun _ => true) true 25 v d pl) (hlt : ∀ x ∈ pl, x.block < W.heap.size) :
   ∃ (Q : QD) (m d : Int) (ao bo : Option Addr) (cap bcap A off : Nat) (so : Nat → Option Addr × Nat), v = .agg #[.int .i64 m, .int .i64 d, .slice ao Q.m cap, .slice bo Q.N bcap] ∧ Q.m ≤ 9223372036854775807 ∧ Q.N ≤ 9223372036854775807 ∧ (∀ i, i < Q.N → Q.L i ≤ 9223372036854775807) ∧ (0 < Q.N → bo = some ⟨A, off, none⟩) ∧ ItIn Q W ao (List.range Q.m) ∧ BlIn Q W A off so := by
 obtain ⟨cs, rfl, hsz⟩ := okWide_struct Try.underlying25 ok
 rw [Try.cellsQuad] at hsz
 obtain ⟨c0, c1, c2, c3, rfl⟩ : ∃ c0 c1 c2 c3, cs = #[c0, c1, c2, c3] := by
   obtain ⟨l⟩ := cs
   match l, hsz with
   | [c0, c1, c2, c3], _ => exact ⟨c0, c1, c2, c3, rfl⟩
 obtain ⟨fuel, hf⟩ := h
 simp only [Value.cells] at hf
 obtain ⟨y0, y1, y2, y3, k, hy, _, g0, g1, g2, g3⟩ := Go.Joins.trod_struct4 Try.underlying25 hf
 simp [Try.cellsInt64, Try.cellsItemS, Try.cellsBlockS] at g0 g1 g2 g3
 have hpl : pl = y0.2 ++ (y1.2 ++ (y2.2 ++ y3.2)) := by have := congrArg Prod.snd hy; simpa using this
 have hlt2 : ∀ x ∈ y2.2, x.block < W.heap.size := fun x hx => hlt x (by rw [hpl]; exact List.mem_append_right _ (List.mem_append_right _ (List.mem_append_left _ hx)))
 have hlt3 : ∀ x ∈ y3.2, x.block < W.heap.size := fun x hx => hlt x (by rw [hpl]; exact List.mem_append_right _ (List.mem_append_right _ (List.mem_append_right _ hx)))
 obtain ⟨m, hv, -, -⟩ := DataW.trod_int Try.underlying2 g0
 simp at hv
 subst hv
 obtain ⟨d, hv, -, -⟩ := DataW.trod_int Try.underlying2 g1
 simp at hv
 subst hv
 have HI : ∃ ao n cap, ∃ q : Nat → Int × Int × Int × Int × Int, c2 = .slice ao n cap ∧ n ≤ 9223372036854775807 ∧ ∀ i, i < n → ∃ A off, ao = some ⟨A, off, none⟩ ∧ A < W.heap.size ∧ W.cell? ⟨A, off + i * 5, none⟩ = some (.int .i64 (q i).1) ∧ W.cell? ⟨A, off + i * 5 + 1, none⟩ = some (.int .i64 (q i).2.1) ∧ W.cell? ⟨A, off + i * 5 + 2, none⟩ = some (.int .i64 (q i).2.2.1) ∧ W.cell? ⟨A, off + i * 5 + 3, none⟩ = some (.int .i64 (q i).2.2.2.1) ∧ W.cell? ⟨A, off + i * 5 + 4, none⟩ = some (.int .i64 (q i).2.2.2.2) := by
   rcases Go.Deep.open_slice Try.underlying22 g2 with ⟨hcs, hx⟩ | ⟨a, len', cap', m', n', D, Pl, hcs, _, hl, hm, hz, hx, hel⟩
   · simp at hcs
     subst hcs
     exact ⟨none, 0, 0, fun _ => (0, 0, 0, 0, 0), rfl, by omega, fun i hi => by omega⟩
   · simp at hcs
     subst hcs
     subst hx
     simp only [if_true] at hz
     obtain ⟨q, hq⟩ := items_of (len := len') (by omega) hel (fun y hy => hlt2 y (List.mem_append_left _ hy))
     exact ⟨some a, len', cap', q, rfl, by have := hm; simp [maxLen] at this; omega, hq⟩
 have HK : ∃ bo n cap A off, ∃ (q : Nat → Int × Int × Int × Bool) (S : Nat → Option Addr × Nat) (L : Nat → Nat) (E : Nat → Nat → Int), c3 = .slice bo n cap ∧ n ≤ 9223372036854775807 ∧ (0 < n → bo = some ⟨A, off, none⟩) ∧ (∀ i, i < n → L i ≤ 9223372036854775807) ∧ ∀ i, i < n → A < W.heap.size ∧ W.cell? ⟨A, off + i * 5, none⟩ = some (.int .i64 (q i).1) ∧ W.cell? ⟨A, off + i * 5 + 1, none⟩ = some (.int .i64 (q i).2.1) ∧ W.cell? ⟨A, off + i * 5 + 2, none⟩ = some (.int .i64 (q i).2.2.1) ∧ W.cell? ⟨A, off + i * 5 + 3, none⟩ = some (.bool (q i).2.2.2) ∧ W.cell? ⟨A, off + i * 5 + 4, none⟩ = some (.slice (S i).1 (L i) (S i).2) ∧ NoIn W (S i).1 (L i) (E i) := by
   rcases Go.Deep.open_slice Try.underlying23 g3 with ⟨hcs, hx⟩ | ⟨a, len', cap', m', n', D, Pl, hcs, _, hl, hm, hz, hx, hel⟩
   · simp at hcs
     subst hcs
     exact ⟨none, 0, 0, 0, 0, fun _ => (0, 0, 0, false), fun _ => (none, 0), fun _ => 0, fun _ _ => 0, rfl, by omega, fun h => by omega, fun i hi => by omega, fun i hi => by omega⟩
   · simp at hcs
     subst hcs
     subst hx
     simp only [if_true] at hz
     obtain ⟨A, off, q, S, L, E, h1, h2, h3⟩ := blocks_of (len := len') (by omega) hel (fun y hy => hlt3 y (List.mem_append_left _ hy)) (fun i hi y hy => hlt3 y (List.mem_append_right _ (List.mem_flatMap.2 ⟨i, List.mem_range.2 hi, hy⟩)))
     exact ⟨some a, len', cap', A, off, q, S, L, E, rfl, by have := hm; simp [maxLen] at this; omega, h1, h2, h3⟩
 obtain ⟨ao, n, cap, p, rfl, hn, hp⟩ := HI
 obtain ⟨bo, N, bcap, A, off, q, S, L, E, rfl, hN, hbo, hL, hq⟩ := HK
 refine ⟨⟨n, N, fun i => (p i).1, fun i => (p i).2, fun i => (q i).1, fun i => (q i).2.1, fun i => (q i).2.2.1, fun i => (q i).2.2.2, L, E⟩, m, d, ao, bo, cap, bcap, A, off, S, rfl, hn, hN, hL, hbo, fun j i hj => ?_, hq⟩
 have hjn : j < n := by have := (List.getElem?_eq_some_iff.1 hj).1; simpa using this
 have hji : j = i := by simpa [hjn] using hj
 subst hji
 exact hp j hjn
open Go.ChangeShapes Go.WideShapes Go.ChangeAt Go.RowKit Go.Joins
theorem jn_laid : laidOutB Try.pinned.checked.prog = true := by kernel_rfl
theorem jn_maps : mapsRowed Try.pinned.checked.prog = true := by kernel_rfl
theorem jn_enter : Try.pinned.checked.prog.mayEnter = true := by kernel_rfl
theorem jn_heard : Try.pinned.checked.prog.stopsHeard = true := by kernel_rfl
end Go.Proofs.Ytjhapeidafbncaa
