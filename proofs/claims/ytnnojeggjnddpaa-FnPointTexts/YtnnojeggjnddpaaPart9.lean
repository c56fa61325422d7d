/- Part 9 of the walks that the proof leans on. -/
import Derived.Test.YtnnojeggjnddpaaPart8
import Derived.Test.YtnnojeggjnddpaaPart3
import Derived.Laws.BytesArg
import Derived.Test.YtnnojeggjnddpaaPart5
import Derived.Test.YtnnojeggjnddpaaPart6
import Derived.Laws.BitsLemmas
import Derived.Test.YtnnojeggjnddpaaPart1
/- A point of three numbers: the model's walk. -/
namespace Go.Proofs.Ytnnojeggjnddpaa
open Go.RowKit
/-- The point of three numbers in lowest terms, and true; zeros and false where there is none. -/
def ptV (x y z : Int) : Value := if small x && small y && small z then .tuple #[PV x y z, .bool true] else .tuple #[.agg #[.int .u64 0, .int .u64 0, .int .u64 0, .int .u64 0, .int .u64 0, .int .u64 0, .int .u64 0, .int .u64 0, .int .u64 0, .int .u64 0, .int .u64 0, .int .u64 0], .bool false]
def pmV (x y z : Int) : Value := if z = 0 then .tuple #[.agg #[.int .u64 0, .int .u64 0, .int .u64 0, .int .u64 0, .int .u64 0, .int .u64 0, .int .u64 0, .int .u64 0, .int .u64 0, .int .u64 0, .int .u64 0, .int .u64 0], .bool false] else ptV (shareZ x (Int.gcd (Int.gcd x y : Int) z : Int) (decide (z < 0))) (shareZ y (Int.gcd (Int.gcd x y : Int) z : Int) (decide (z < 0))) (shareZ z (Int.gcd (Int.gcd x y : Int) z : Int) (decide (z < 0)))
theorem ptV_ex (x y z : Int) : ∃ r0 r1 r2 r3 r4 r5 r6 r7 r8 r9 r10 r11 t, ptV x y z = .tuple #[.agg #[.int .u64 r0, .int .u64 r1, .int .u64 r2, .int .u64 r3, .int .u64 r4, .int .u64 r5, .int .u64 r6, .int .u64 r7, .int .u64 r8, .int .u64 r9, .int .u64 r10, .int .u64 r11], .bool t] := by
  unfold ptV
  split
  · exact ⟨_, _, _, _, _, _, _, _, _, _, _, _, true, rfl⟩
  · exact ⟨0, 0, 0, 0, 0, 0, 0, 0, 0, 0, 0, 0, false, rfl⟩
set_option maxRecDepth 100000 in
set_option maxHeartbeats 2000000 in
theorem l3Point_any (ps1 : Bool) (po1 : Option Addr) (pn1 pc1 : Nat) (pd1 : List Int) (ps2 : Bool) (po2 : Option Addr) (pn2 pc2 : Nat) (pd2 : List Int) (ps3 : Bool) (po3 : Option Addr) (pn3 pc3 : Nat) (pd3 : List Int) (x y z : Int) (k : Nat) (hk : k ≤ 100000) (w : World) (N1 : IsNum w ps1 po1 pn1 pc1 pd1 x k) (N2 : IsNum w ps2 po2 pn2 pc2 pd2 y k) (N3 : IsNum w ps3 po3 pn3 pc3 pd3 z k) :
    Calls Try.prog 119 #[.agg #[.bool ps1, .slice po1 pn1 pc1, .bool ps2, .slice po2 pn2 pc2, .bool ps3, .slice po3 pn3 pc3]] w (VP (ptV x y z) w) := by
  by_cases hs : small x = true ∧ small y = true ∧ small z = true
  · obtain ⟨h1, h2, h3⟩ := hs
    have := l3Point_small ps1 po1 pn1 pc1 pd1 ps2 po2 pn2 pc2 pd2 ps3 po3 pn3 pc3 pd3 x y z k hk h1 h2 h3 w N1 N2 N3
    unfold ptV
    rw [h1, h2, h3]
    exact this
  · have hv : (small x && small y && small z) = false := by
      rw [Bool.eq_false_iff]
      intro h
      simp at h
      exact hs ⟨h.1.1, h.1.2, h.2⟩
    have HO : Hid (ptV x y z = .tuple #[.agg #[.int .u64 0, .int .u64 0, .int .u64 0, .int .u64 0, .int .u64 0, .int .u64 0, .int .u64 0, .int .u64 0, .int .u64 0, .int .u64 0, .int .u64 0, .int .u64 0], .bool false]) := by show _ = _; unfold ptV; rw [hv]; rfl
    have T0 : ArgsB w ((w.alloc (.cells #[.bool ps1, .slice po1 pn1 pc1, .bool ps2, .slice po2 pn2 pc2, .bool ps3, .slice po3 pn3 pc3] 95)).alloc (.cells #[.int .u64 0, .int .u64 0, .int .u64 0, .int .u64 0, .int .u64 0, .int .u64 0, .int .u64 0, .int .u64 0, .int .u64 0, .int .u64 0, .int .u64 0, .int .u64 0] 47)) [[.bool ps1, .slice po1 pn1 pc1, .bool ps2, .slice po2 pn2 pc2, .bool ps3, .slice po3 pn3 pc3], [.int .u64 0, .int .u64 0, .int .u64 0, .int .u64 0, .int .u64 0, .int .u64 0, .int .u64 0, .int .u64 0, .int .u64 0, .int .u64 0, .int .u64 0, .int .u64 0]] := ar2 _ _ _ _ w
    replace N1 := N1.below T0.below
    replace N2 := N2.below T0.below
    replace N3 := N3.below T0.below
    go_enter Try.func119, Try.ntmps119
    go_wp2_with fail
    refine (l3Small_any ps1 po1 pn1 pc1 pd1 ps2 po2 pn2 pc2 pd2 ps3 po3 pn3 pc3 pd3 x y z k hk _ N1 N2 N3).mono ?_
    rintro e w0 ⟨rfl, hB⟩
    rw [hv]
    replace T0 := T0.step hB
    have o0 := (T0.b 1 rfl).c 0 rfl; have u0 := (T0.b 1 rfl).f 0 rfl; have o1 := (T0.b 1 rfl).c 1 rfl; have u1 := (T0.b 1 rfl).f 1 rfl; have o2 := (T0.b 1 rfl).c 2 rfl; have u2 := (T0.b 1 rfl).f 2 rfl; have o3 := (T0.b 1 rfl).c 3 rfl; have u3 := (T0.b 1 rfl).f 3 rfl; have o4 := (T0.b 1 rfl).c 4 rfl; have u4 := (T0.b 1 rfl).f 4 rfl; have o5 := (T0.b 1 rfl).c 5 rfl; have u5 := (T0.b 1 rfl).f 5 rfl; have o6 := (T0.b 1 rfl).c 6 rfl; have u6 := (T0.b 1 rfl).f 6 rfl; have o7 := (T0.b 1 rfl).c 7 rfl; have u7 := (T0.b 1 rfl).f 7 rfl; have o8 := (T0.b 1 rfl).c 8 rfl; have u8 := (T0.b 1 rfl).f 8 rfl; have o9 := (T0.b 1 rfl).c 9 rfl; have u9 := (T0.b 1 rfl).f 9 rfl; have o10 := (T0.b 1 rfl).c 10 rfl; have u10 := (T0.b 1 rfl).f 10 rfl; have o11 := (T0.b 1 rfl).c 11 rfl; have u11 := (T0.b 1 rfl).f 11 rfl; have olt := (T0.b 1 rfl).lt
    have HB := T0.below
    clear T0 hB hs hv N1 N2 N3
    go_wp2
    refine bodyPost_ret (v := .tuple #[.agg #[.int .u64 0, .int .u64 0, .int .u64 0, .int .u64 0, .int .u64 0, .int .u64 0, .int .u64 0, .int .u64 0, .int .u64 0, .int .u64 0, .int .u64 0, .int .u64 0], .bool false]) (by simp [results, Try.results119, go_sem, o0, o1, o2, o3, o4, o5, o6, o7, o8, o9, o10, o11]) rfl ?_
    refine ⟨by rw [HO.out], ?_⟩
    repeat' (refine Below.setCell ?_ (by simp; try omega) _)
    exact HB
theorem fromW_det (z : Int) (hz : told z = true) (w : World) : Calls Try.prog 43 #[W4 z] w (NumP 8 z w) := by
  obtain ⟨a3, a2, a1, a0⟩ := ww_words z
  have h := from_any (ww3 z) (ww2 z) (ww1 z) (ww0 z) a3 a2 a1 a0 w
  rw [ww_sw hz] at h
  exact h
theorem pm_cells {x y z : Int} {w W : World} (T0 : ArgsB w W [[.int .u64 (ww3 x), .int .u64 (ww2 x), .int .u64 (ww1 x), .int .u64 (ww0 x)], [.int .u64 (ww3 y), .int .u64 (ww2 y), .int .u64 (ww1 y), .int .u64 (ww0 y)], [.int .u64 (ww3 z), .int .u64 (ww2 z), .int .u64 (ww1 z), .int .u64 (ww0 z)], [.int .u64 0, .int .u64 0, .int .u64 0, .int .u64 0, .int .u64 0, .int .u64 0, .int .u64 0, .int .u64 0, .int .u64 0, .int .u64 0, .int .u64 0, .int .u64 0]]) : (fun w' => w'.cell? ⟨w.heap.size, 0, none⟩ = some (.int .u64 (ww3 x)) ∧ w'.cell? ⟨w.heap.size, 1, none⟩ = some (.int .u64 (ww2 x)) ∧ w'.cell? ⟨w.heap.size, 2, none⟩ = some (.int .u64 (ww1 x)) ∧ w'.cell? ⟨w.heap.size, 3, none⟩ = some (.int .u64 (ww0 x)) ∧ w'.cell? ⟨w.heap.size + 1, 0, none⟩ = some (.int .u64 (ww3 y)) ∧ w'.cell? ⟨w.heap.size + 1, 1, none⟩ = some (.int .u64 (ww2 y)) ∧ w'.cell? ⟨w.heap.size + 1, 2, none⟩ = some (.int .u64 (ww1 y)) ∧ w'.cell? ⟨w.heap.size + 1, 3, none⟩ = some (.int .u64 (ww0 y)) ∧ w'.cell? ⟨w.heap.size + 2, 0, none⟩ = some (.int .u64 (ww3 z)) ∧ w'.cell? ⟨w.heap.size + 2, 1, none⟩ = some (.int .u64 (ww2 z)) ∧ w'.cell? ⟨w.heap.size + 2, 2, none⟩ = some (.int .u64 (ww1 z)) ∧ w'.cell? ⟨w.heap.size + 2, 3, none⟩ = some (.int .u64 (ww0 z))) W := ⟨(T0.b 0 rfl).c 0 rfl, (T0.b 0 rfl).c 1 rfl, (T0.b 0 rfl).c 2 rfl, (T0.b 0 rfl).c 3 rfl, (T0.b 1 rfl).c 0 rfl, (T0.b 1 rfl).c 1 rfl, (T0.b 1 rfl).c 2 rfl, (T0.b 1 rfl).c 3 rfl, (T0.b 2 rfl).c 0 rfl, (T0.b 2 rfl).c 1 rfl, (T0.b 2 rfl).c 2 rfl, (T0.b 2 rfl).c 3 rfl⟩
theorem pm_cells12 {x y z : Int} {w W : World} {v0 v1 v2 v3 v4 v5 v6 v7 v8 v9 v10 v11 : Value} (T0 : ArgsB w W [[.int .u64 (ww3 x), .int .u64 (ww2 x), .int .u64 (ww1 x), .int .u64 (ww0 x)], [.int .u64 (ww3 y), .int .u64 (ww2 y), .int .u64 (ww1 y), .int .u64 (ww0 y)], [.int .u64 (ww3 z), .int .u64 (ww2 z), .int .u64 (ww1 z), .int .u64 (ww0 z)], [.int .u64 0, .int .u64 0, .int .u64 0, .int .u64 0, .int .u64 0, .int .u64 0, .int .u64 0, .int .u64 0, .int .u64 0, .int .u64 0, .int .u64 0, .int .u64 0]]) : (fun w' => w'.cell? ⟨w.heap.size, 0, none⟩ = some (.int .u64 (ww3 x)) ∧ w'.cell? ⟨w.heap.size, 1, none⟩ = some (.int .u64 (ww2 x)) ∧ w'.cell? ⟨w.heap.size, 2, none⟩ = some (.int .u64 (ww1 x)) ∧ w'.cell? ⟨w.heap.size, 3, none⟩ = some (.int .u64 (ww0 x)) ∧ w'.cell? ⟨w.heap.size + 1, 0, none⟩ = some (.int .u64 (ww3 y)) ∧ w'.cell? ⟨w.heap.size + 1, 1, none⟩ = some (.int .u64 (ww2 y)) ∧ w'.cell? ⟨w.heap.size + 1, 2, none⟩ = some (.int .u64 (ww1 y)) ∧ w'.cell? ⟨w.heap.size + 1, 3, none⟩ = some (.int .u64 (ww0 y)) ∧ w'.cell? ⟨w.heap.size + 2, 0, none⟩ = some (.int .u64 (ww3 z)) ∧ w'.cell? ⟨w.heap.size + 2, 1, none⟩ = some (.int .u64 (ww2 z)) ∧ w'.cell? ⟨w.heap.size + 2, 2, none⟩ = some (.int .u64 (ww1 z)) ∧ w'.cell? ⟨w.heap.size + 2, 3, none⟩ = some (.int .u64 (ww0 z))) ((((((((((((W.setCell ⟨(w.heap.size + 1 + 1 + 1), 0, none⟩ v0).setCell ⟨(w.heap.size + 1 + 1 + 1), 1, none⟩ v1).setCell ⟨(w.heap.size + 1 + 1 + 1), 2, none⟩ v2).setCell ⟨(w.heap.size + 1 + 1 + 1), 3, none⟩ v3).setCell ⟨(w.heap.size + 1 + 1 + 1), 4, none⟩ v4).setCell ⟨(w.heap.size + 1 + 1 + 1), 5, none⟩ v5).setCell ⟨(w.heap.size + 1 + 1 + 1), 6, none⟩ v6).setCell ⟨(w.heap.size + 1 + 1 + 1), 7, none⟩ v7).setCell ⟨(w.heap.size + 1 + 1 + 1), 8, none⟩ v8).setCell ⟨(w.heap.size + 1 + 1 + 1), 9, none⟩ v9).setCell ⟨(w.heap.size + 1 + 1 + 1), 10, none⟩ v10).setCell ⟨(w.heap.size + 1 + 1 + 1), 11, none⟩ v11) := by
  have h0 : Blk ((((((((((((W.setCell ⟨(w.heap.size + 1 + 1 + 1), 0, none⟩ v0).setCell ⟨(w.heap.size + 1 + 1 + 1), 1, none⟩ v1).setCell ⟨(w.heap.size + 1 + 1 + 1), 2, none⟩ v2).setCell ⟨(w.heap.size + 1 + 1 + 1), 3, none⟩ v3).setCell ⟨(w.heap.size + 1 + 1 + 1), 4, none⟩ v4).setCell ⟨(w.heap.size + 1 + 1 + 1), 5, none⟩ v5).setCell ⟨(w.heap.size + 1 + 1 + 1), 6, none⟩ v6).setCell ⟨(w.heap.size + 1 + 1 + 1), 7, none⟩ v7).setCell ⟨(w.heap.size + 1 + 1 + 1), 8, none⟩ v8).setCell ⟨(w.heap.size + 1 + 1 + 1), 9, none⟩ v9).setCell ⟨(w.heap.size + 1 + 1 + 1), 10, none⟩ v10).setCell ⟨(w.heap.size + 1 + 1 + 1), 11, none⟩ v11) (w.heap.size + 0) _ := (T0.b 0 rfl).set12 (by omega)
  have h1 : Blk ((((((((((((W.setCell ⟨(w.heap.size + 1 + 1 + 1), 0, none⟩ v0).setCell ⟨(w.heap.size + 1 + 1 + 1), 1, none⟩ v1).setCell ⟨(w.heap.size + 1 + 1 + 1), 2, none⟩ v2).setCell ⟨(w.heap.size + 1 + 1 + 1), 3, none⟩ v3).setCell ⟨(w.heap.size + 1 + 1 + 1), 4, none⟩ v4).setCell ⟨(w.heap.size + 1 + 1 + 1), 5, none⟩ v5).setCell ⟨(w.heap.size + 1 + 1 + 1), 6, none⟩ v6).setCell ⟨(w.heap.size + 1 + 1 + 1), 7, none⟩ v7).setCell ⟨(w.heap.size + 1 + 1 + 1), 8, none⟩ v8).setCell ⟨(w.heap.size + 1 + 1 + 1), 9, none⟩ v9).setCell ⟨(w.heap.size + 1 + 1 + 1), 10, none⟩ v10).setCell ⟨(w.heap.size + 1 + 1 + 1), 11, none⟩ v11) (w.heap.size + 1) _ := (T0.b 1 rfl).set12 (by omega)
  have h2 : Blk ((((((((((((W.setCell ⟨(w.heap.size + 1 + 1 + 1), 0, none⟩ v0).setCell ⟨(w.heap.size + 1 + 1 + 1), 1, none⟩ v1).setCell ⟨(w.heap.size + 1 + 1 + 1), 2, none⟩ v2).setCell ⟨(w.heap.size + 1 + 1 + 1), 3, none⟩ v3).setCell ⟨(w.heap.size + 1 + 1 + 1), 4, none⟩ v4).setCell ⟨(w.heap.size + 1 + 1 + 1), 5, none⟩ v5).setCell ⟨(w.heap.size + 1 + 1 + 1), 6, none⟩ v6).setCell ⟨(w.heap.size + 1 + 1 + 1), 7, none⟩ v7).setCell ⟨(w.heap.size + 1 + 1 + 1), 8, none⟩ v8).setCell ⟨(w.heap.size + 1 + 1 + 1), 9, none⟩ v9).setCell ⟨(w.heap.size + 1 + 1 + 1), 10, none⟩ v10).setCell ⟨(w.heap.size + 1 + 1 + 1), 11, none⟩ v11) (w.heap.size + 2) _ := (T0.b 2 rfl).set12 (by omega)
  exact ⟨h0.c 0 rfl, h0.c 1 rfl, h0.c 2 rfl, h0.c 3 rfl, h1.c 0 rfl, h1.c 1 rfl, h1.c 2 rfl, h1.c 3 rfl, h2.c 0 rfl, h2.c 1 rfl, h2.c 2 rfl, h2.c 3 rfl⟩
set_option maxRecDepth 100000 in
set_option maxHeartbeats 8000000 in
theorem specPointMake_det (x y z : Int) (hx : told x = true) (hy : told y = true) (hz : told z = true) (w : World) : Calls Try.prog 106 #[W4 x, W4 y, W4 z] w (VP (pmV x y z) w) := by
  have T0 : ArgsB w ((((w.alloc (.cells #[.int .u64 (ww3 x), .int .u64 (ww2 x), .int .u64 (ww1 x), .int .u64 (ww0 x)] 26)).alloc (.cells #[.int .u64 (ww3 y), .int .u64 (ww2 y), .int .u64 (ww1 y), .int .u64 (ww0 y)] 26)).alloc (.cells #[.int .u64 (ww3 z), .int .u64 (ww2 z), .int .u64 (ww1 z), .int .u64 (ww0 z)] 26)).alloc (.cells #[.int .u64 0, .int .u64 0, .int .u64 0, .int .u64 0, .int .u64 0, .int .u64 0, .int .u64 0, .int .u64 0, .int .u64 0, .int .u64 0, .int .u64 0, .int .u64 0] 47)) [[.int .u64 (ww3 x), .int .u64 (ww2 x), .int .u64 (ww1 x), .int .u64 (ww0 x)], [.int .u64 (ww3 y), .int .u64 (ww2 y), .int .u64 (ww1 y), .int .u64 (ww0 y)], [.int .u64 (ww3 z), .int .u64 (ww2 z), .int .u64 (ww1 z), .int .u64 (ww0 z)], [.int .u64 0, .int .u64 0, .int .u64 0, .int .u64 0, .int .u64 0, .int .u64 0, .int .u64 0, .int .u64 0, .int .u64 0, .int .u64 0, .int .u64 0, .int .u64 0]] := ar4 _ _ _ _ _ _ _ _ w
  obtain ⟨z3, z2, z1, z0⟩ := ww_words z
  have EZ := eqZ4 (ww3 z) (ww2 z) (ww1 z) (ww0 z)
  rw [zero4 z3 z2 z1 z0, ww_sw hz] at EZ
  clear z3 z2 z1 z0
  by_cases h0 : z = 0
  · have HO : Hid (pmV x y z = .tuple #[.agg #[.int .u64 0, .int .u64 0, .int .u64 0, .int .u64 0, .int .u64 0, .int .u64 0, .int .u64 0, .int .u64 0, .int .u64 0, .int .u64 0, .int .u64 0, .int .u64 0], .bool false]) := by show _ = _; unfold pmV; rw [if_pos h0]
    rw [decide_eq_true h0] at EZ
    clear h0 hx hy hz
    go_enter Try.func106, Try.ntmps106
    go_upto_region 1 with fail
    generalize ((((w.alloc (.cells #[.int .u64 (ww3 x), .int .u64 (ww2 x), .int .u64 (ww1 x), .int .u64 (ww0 x)] 26)).alloc (.cells #[.int .u64 (ww3 y), .int .u64 (ww2 y), .int .u64 (ww1 y), .int .u64 (ww0 y)] 26)).alloc (.cells #[.int .u64 (ww3 z), .int .u64 (ww2 z), .int .u64 (ww1 z), .int .u64 (ww0 z)] 26)).alloc (.cells #[.int .u64 0, .int .u64 0, .int .u64 0, .int .u64 0, .int .u64 0, .int .u64 0, .int .u64 0, .int .u64 0, .int .u64 0, .int .u64 0, .int .u64 0, .int .u64 0] 47)) = W0 at *
    have aB : Blk _ (w.heap.size) _ := T0.b 0 rfl; have a0 := aB.c 0 rfl; have a1 := aB.c 1 rfl; have a2 := aB.c 2 rfl; have a3 := aB.c 3 rfl; clear aB; have bB : Blk _ (w.heap.size + 1) _ := T0.b 1 rfl; have b0 := bB.c 0 rfl; have b1 := bB.c 1 rfl; have b2 := bB.c 2 rfl; have b3 := bB.c 3 rfl; clear bB; have eB : Blk _ (w.heap.size + 1 + 1) _ := T0.b 2 rfl; have e0 := eB.c 0 rfl; have e1 := eB.c 1 rfl; have e2 := eB.c 2 rfl; have e3 := eB.c 3 rfl; clear eB
    have o0 := (T0.b 3 rfl).c 0 rfl; have u0 := (T0.b 3 rfl).f 0 rfl; have o1 := (T0.b 3 rfl).c 1 rfl; have u1 := (T0.b 3 rfl).f 1 rfl; have o2 := (T0.b 3 rfl).c 2 rfl; have u2 := (T0.b 3 rfl).f 2 rfl; have o3 := (T0.b 3 rfl).c 3 rfl; have u3 := (T0.b 3 rfl).f 3 rfl; have o4 := (T0.b 3 rfl).c 4 rfl; have u4 := (T0.b 3 rfl).f 4 rfl; have o5 := (T0.b 3 rfl).c 5 rfl; have u5 := (T0.b 3 rfl).f 5 rfl; have o6 := (T0.b 3 rfl).c 6 rfl; have u6 := (T0.b 3 rfl).f 6 rfl; have o7 := (T0.b 3 rfl).c 7 rfl; have u7 := (T0.b 3 rfl).f 7 rfl; have o8 := (T0.b 3 rfl).c 8 rfl; have u8 := (T0.b 3 rfl).f 8 rfl; have o9 := (T0.b 3 rfl).c 9 rfl; have u9 := (T0.b 3 rfl).f 9 rfl; have o10 := (T0.b 3 rfl).c 10 rfl; have u10 := (T0.b 3 rfl).f 10 rfl; have o11 := (T0.b 3 rfl).c 11 rfl; have u11 := (T0.b 3 rfl).f 11 rfl; have olt := (T0.b 3 rfl).lt
    have HB := T0.below
    clear T0
    go_wp2
    refine bodyPost_ret (v := .tuple #[.agg #[.int .u64 0, .int .u64 0, .int .u64 0, .int .u64 0, .int .u64 0, .int .u64 0, .int .u64 0, .int .u64 0, .int .u64 0, .int .u64 0, .int .u64 0, .int .u64 0], .bool false]) (by simp [results, Try.results106, go_sem, o0, o1, o2, o3, o4, o5, o6, o7, o8, o9, o10, o11]) rfl ?_
    refine ⟨by rw [HO.out], ?_⟩
    repeat' (refine Below.setCell ?_ (by simp; try omega) _)
    exact HB
  · have HO : Hid (pmV x y z = ptV (shareZ x (Int.gcd (Int.gcd x y : Int) z : Int) (decide (z < 0))) (shareZ y (Int.gcd (Int.gcd x y : Int) z : Int) (decide (z < 0))) (shareZ z (Int.gcd (Int.gcd x y : Int) z : Int) (decide (z < 0)))) := by show _ = _; unfold pmV; rw [if_neg h0]
    rw [decide_eq_false h0] at EZ
    have F1 := fromW_det x hx
    have F2 := fromW_det y hy
    have F3 := fromW_det z hz
    obtain ⟨r0, r1, r2, r3, r4, r5, r6, r7, r8, r9, r10, r11, t, ht⟩ := ptV_ex (shareZ x (Int.gcd (Int.gcd x y : Int) z : Int) (decide (z < 0))) (shareZ y (Int.gcd (Int.gcd x y : Int) z : Int) (decide (z < 0))) (shareZ z (Int.gcd (Int.gcd x y : Int) z : Int) (decide (z < 0)))
    rw [ht] at HO
    clear hx hy hz
    have tok1 : True := trivial
    have tok2 : True := trivial
    go_enter Try.func106, Try.ntmps106
    go_upto_region 1 with fail
    generalize ((((w.alloc (.cells #[.int .u64 (ww3 x), .int .u64 (ww2 x), .int .u64 (ww1 x), .int .u64 (ww0 x)] 26)).alloc (.cells #[.int .u64 (ww3 y), .int .u64 (ww2 y), .int .u64 (ww1 y), .int .u64 (ww0 y)] 26)).alloc (.cells #[.int .u64 (ww3 z), .int .u64 (ww2 z), .int .u64 (ww1 z), .int .u64 (ww0 z)] 26)).alloc (.cells #[.int .u64 0, .int .u64 0, .int .u64 0, .int .u64 0, .int .u64 0, .int .u64 0, .int .u64 0, .int .u64 0, .int .u64 0, .int .u64 0, .int .u64 0, .int .u64 0] 47)) = W0 at *
    have aB : Blk _ (w.heap.size) _ := T0.b 0 rfl; have a0 := aB.c 0 rfl; have a1 := aB.c 1 rfl; have a2 := aB.c 2 rfl; have a3 := aB.c 3 rfl; clear aB; have bB : Blk _ (w.heap.size + 1) _ := T0.b 1 rfl; have b0 := bB.c 0 rfl; have b1 := bB.c 1 rfl; have b2 := bB.c 2 rfl; have b3 := bB.c 3 rfl; clear bB; have eB : Blk _ (w.heap.size + 1 + 1) _ := T0.b 2 rfl; have e0 := eB.c 0 rfl; have e1 := eB.c 1 rfl; have e2 := eB.c 2 rfl; have e3 := eB.c 3 rfl; clear eB
    go_upto_region 3 with fail
    clear a0 a1 a2 a3 b0 b1 b2 b3 e0 e1 e2 e3
    go_region_held3 (fun w' => w'.cell? ⟨w.heap.size, 0, none⟩ = some (.int .u64 (ww3 x)) ∧ w'.cell? ⟨w.heap.size, 1, none⟩ = some (.int .u64 (ww2 x)) ∧ w'.cell? ⟨w.heap.size, 2, none⟩ = some (.int .u64 (ww1 x)) ∧ w'.cell? ⟨w.heap.size, 3, none⟩ = some (.int .u64 (ww0 x)) ∧ w'.cell? ⟨w.heap.size + 1, 0, none⟩ = some (.int .u64 (ww3 y)) ∧ w'.cell? ⟨w.heap.size + 1, 1, none⟩ = some (.int .u64 (ww2 y)) ∧ w'.cell? ⟨w.heap.size + 1, 2, none⟩ = some (.int .u64 (ww1 y)) ∧ w'.cell? ⟨w.heap.size + 1, 3, none⟩ = some (.int .u64 (ww0 y)) ∧ w'.cell? ⟨w.heap.size + 2, 0, none⟩ = some (.int .u64 (ww3 z)) ∧ w'.cell? ⟨w.heap.size + 2, 1, none⟩ = some (.int .u64 (ww2 z)) ∧ w'.cell? ⟨w.heap.size + 2, 2, none⟩ = some (.int .u64 (ww1 z)) ∧ w'.cell? ⟨w.heap.size + 2, 3, none⟩ = some (.int .u64 (ww0 z))) (first | (with_reducible exact pm_cells T0) | (with_reducible exact pm_cells T0.drew) | (with_reducible exact pm_cells12 T0))
      (first
        | (go_at_call 43; have _t := tok1; refine (F1 _).mono ?_; rintro e k1 ⟨s1, o1', n1, c1, d1, rfl, N1, hB⟩; (first | (have T1 := T0.step hB) | (have T1 := T0.drew.step hB)); clear T0; have T0 := T1; clear T1; clear hB tok1 _t)
        | (go_at_call 43; have _t := tok2; refine (F2 _).mono ?_; rintro e k2 ⟨s2, o2', n2, c2, d2, rfl, N2, hB⟩; (first | (have T1 := T0.step hB) | (have T1 := T0.drew.step hB)); clear T0; have T0 := T1; clear T1; replace N1 := N1.below hB; clear hB tok2 _t)
        | (go_at_call 43; refine (F3 _).mono ?_; rintro e k3 ⟨s3, o3', n3, c3, d3, rfl, N3, hB⟩; (first | (have T1 := T0.step hB) | (have T1 := T0.drew.step hB)); clear T0; have T0 := T1; clear T1; replace N1 := N1.below hB; replace N2 := N2.below hB; clear hB)
        | (go_at_call 120; refine (l3Make_any s1 o1' n1 c1 d1 s2 o2' n2 c2 d2 s3 o3' n3 c3 d3 x y z 8 (by omega) (by omega) _ N1 N2 N3 h0).mono ?_; rintro e k4 ⟨ps1, po1, pn1, pc1, pd1, ps2, po2, pn2, pc2, pd2, ps3, po3, pn3, pc3, pd3, rfl, M1, M2, M3, hB⟩; (first | (have T1 := T0.step hB) | (have T1 := T0.drew.step hB)); clear T0; have T0 := T1; clear T1; clear hB N1 N2 N3)
        | (go_at_call 119; refine (l3Point_any ps1 po1 pn1 pc1 pd1 ps2 po2 pn2 pc2 pd2 ps3 po3 pn3 pc3 pd3 _ _ _ _ (by omega) _ M1 M2 M3).mono ?_; rw [ht]; rintro e k5 ⟨rfl, hB⟩; (first | (have T1 := T0.step hB) | (have T1 := T0.drew.step hB)); clear T0; have T0 := T1; clear T1; clear hB M1 M2 M3; have o0 := (T0.b 3 rfl).c 0 rfl; have u0 := (T0.b 3 rfl).f 0 rfl; have o1 := (T0.b 3 rfl).c 1 rfl; have u1 := (T0.b 3 rfl).f 1 rfl; have o2 := (T0.b 3 rfl).c 2 rfl; have u2 := (T0.b 3 rfl).f 2 rfl; have o3 := (T0.b 3 rfl).c 3 rfl; have u3 := (T0.b 3 rfl).f 3 rfl; have o4 := (T0.b 3 rfl).c 4 rfl; have u4 := (T0.b 3 rfl).f 4 rfl; have o5 := (T0.b 3 rfl).c 5 rfl; have u5 := (T0.b 3 rfl).f 5 rfl; have o6 := (T0.b 3 rfl).c 6 rfl; have u6 := (T0.b 3 rfl).f 6 rfl; have o7 := (T0.b 3 rfl).c 7 rfl; have u7 := (T0.b 3 rfl).f 7 rfl; have o8 := (T0.b 3 rfl).c 8 rfl; have u8 := (T0.b 3 rfl).f 8 rfl; have o9 := (T0.b 3 rfl).c 9 rfl; have u9 := (T0.b 3 rfl).f 9 rfl; have o10 := (T0.b 3 rfl).c 10 rfl; have u10 := (T0.b 3 rfl).f 10 rfl; have o11 := (T0.b 3 rfl).c 11 rfl; have u11 := (T0.b 3 rfl).f 11 rfl; have olt := (T0.b 3 rfl).lt))
    all_goals have HB := T0.below
    all_goals have X3 : Blk _ (w.heap.size + 1 + 1 + 1) _ := T0.b 3 rfl
    all_goals clear T0
    all_goals go_wp2
    all_goals refine bodyPost_ret (v := .tuple #[.agg #[.int .u64 r0, .int .u64 r1, .int .u64 r2, .int .u64 r3, .int .u64 r4, .int .u64 r5, .int .u64 r6, .int .u64 r7, .int .u64 r8, .int .u64 r9, .int .u64 r10, .int .u64 r11], .bool t]) (by simp [results, Try.results106, go_sem, o0, o1, o2, o3, o4, o5, o6, o7, o8, o9, o10, o11]) rfl ?_
    all_goals refine ⟨by rw [HO.out], ?_⟩
    all_goals repeat' (refine Below.setCell ?_ (by simp; try omega) _)
    all_goals first | exact HB | exact HB.drew
end Go.Proofs.Ytnnojeggjnddpaa

/- Points drawn from a code. -/
namespace Go.Proofs.Ytnnojeggjnddpaa
open Go.RowKit
set_option maxRecDepth 100000 in
set_option maxHeartbeats 1000000 in
theorem near_p40 (g : Nat) (ao : Option Addr) (n cap : Nat) (cs : List Int) (w : World) (h : Rdr w g ao n cap cs) :
    Calls Try.prog 102 #[.pointer (some ⟨g, 0, none⟩), .int .i64 (-40), .int .i64 40] w (RdP g ao n cap cs (IsIn (-40) 41) w) := by
  go_enter Try.func102, Try.ntmps102
  go_wp2_with fail
  refine (below_any 8 (by decide) (by decide) g ao n cap cs _ h).mono ?_
  rintro e w1 ⟨_, rfl, ⟨x, rfl, x0, x1⟩, R, K⟩
  clear h
  by_cases h0 : x = 0
  · subst h0
    go_wp2
    go_ret
    exact ⟨_, rfl, ⟨_, rfl, by decide, by decide⟩, R, K⟩
  · by_cases h1 : x = 1
    · subst h1
      go_wp2
      go_ret
      exact ⟨_, rfl, ⟨_, rfl, by decide, by decide⟩, R, K⟩
    · have e0 : (x == 0) = false := by simpa using h0
      have e1 : (x == 1) = false := by simpa using h1
      go_wp2_with fail
      refine (word_any g ao n cap cs _ R).mono ?_
      rintro e w2 ⟨_, rfl, ⟨y, rfl, y0, y1⟩, R2, K2⟩
      replace K := K.trans K2
      clear R K2
      have hw : IntKind.u64.wrap 81 = 81 := by rw [IntKind.wrap_u64]; decide
      go_wp2
      go_ret
      exact ⟨_, rfl, ⟨_, rfl, by omega, by omega⟩, R2, K⟩
set_option maxRecDepth 100000 in
set_option maxHeartbeats 1000000 in
theorem near_p9 (g : Nat) (ao : Option Addr) (n cap : Nat) (cs : List Int) (w : World) (h : Rdr w g ao n cap cs) :
    Calls Try.prog 102 #[.pointer (some ⟨g, 0, none⟩), .int .i64 0, .int .i64 9] w (RdP g ao n cap cs (IsIn 0 10) w) := by
  go_enter Try.func102, Try.ntmps102
  go_wp2_with fail
  refine (below_any 8 (by decide) (by decide) g ao n cap cs _ h).mono ?_
  rintro e w1 ⟨_, rfl, ⟨x, rfl, x0, x1⟩, R, K⟩
  clear h
  by_cases h0 : x = 0
  · subst h0
    go_wp2
    go_ret
    exact ⟨_, rfl, ⟨_, rfl, by decide, by decide⟩, R, K⟩
  · by_cases h1 : x = 1
    · subst h1
      go_wp2
      go_ret
      exact ⟨_, rfl, ⟨_, rfl, by decide, by decide⟩, R, K⟩
    · have e0 : (x == 0) = false := by simpa using h0
      have e1 : (x == 1) = false := by simpa using h1
      go_wp2_with fail
      refine (word_any g ao n cap cs _ R).mono ?_
      rintro e w2 ⟨_, rfl, ⟨y, rfl, y0, y1⟩, R2, K2⟩
      replace K := K.trans K2
      clear R K2
      have hw : IntKind.u64.wrap 10 = 10 := by rw [IntKind.wrap_u64]; decide
      go_wp2
      go_ret
      exact ⟨_, rfl, ⟨_, rfl, by omega, by omega⟩, R2, K⟩
set_option maxRecDepth 100000 in
set_option maxHeartbeats 1000000 in
theorem near_pm (g : Nat) (ao : Option Addr) (n cap : Nat) (cs : List Int) (w : World) (h : Rdr w g ao n cap cs) :
    Calls Try.prog 102 #[.pointer (some ⟨g, 0, none⟩), .int .i64 (-1000000), .int .i64 1000000] w (RdP g ao n cap cs (IsIn (-1000000) 1000001) w) := by
  go_enter Try.func102, Try.ntmps102
  go_wp2_with fail
  refine (below_any 8 (by decide) (by decide) g ao n cap cs _ h).mono ?_
  rintro e w1 ⟨_, rfl, ⟨x, rfl, x0, x1⟩, R, K⟩
  clear h
  by_cases h0 : x = 0
  · subst h0
    go_wp2
    go_ret
    exact ⟨_, rfl, ⟨_, rfl, by decide, by decide⟩, R, K⟩
  · by_cases h1 : x = 1
    · subst h1
      go_wp2
      go_ret
      exact ⟨_, rfl, ⟨_, rfl, by decide, by decide⟩, R, K⟩
    · have e0 : (x == 0) = false := by simpa using h0
      have e1 : (x == 1) = false := by simpa using h1
      go_wp2_with fail
      refine (word_any g ao n cap cs _ R).mono ?_
      rintro e w2 ⟨_, rfl, ⟨y, rfl, y0, y1⟩, R2, K2⟩
      replace K := K.trans K2
      clear R K2
      have hw : IntKind.u64.wrap 2000001 = 2000001 := by rw [IntKind.wrap_u64]; decide
      go_wp2
      go_ret
      exact ⟨_, rfl, ⟨_, rfl, by omega, by omega⟩, R2, K⟩
set_option maxRecDepth 100000 in
set_option maxHeartbeats 1000000 in
theorem near_p6 (g : Nat) (ao : Option Addr) (n cap : Nat) (cs : List Int) (w : World) (h : Rdr w g ao n cap cs) :
    Calls Try.prog 102 #[.pointer (some ⟨g, 0, none⟩), .int .i64 (-6), .int .i64 6] w (RdP g ao n cap cs (IsIn (-6) 7) w) := by
  go_enter Try.func102, Try.ntmps102
  go_wp2_with fail
  refine (below_any 8 (by decide) (by decide) g ao n cap cs _ h).mono ?_
  rintro e w1 ⟨_, rfl, ⟨x, rfl, x0, x1⟩, R, K⟩
  clear h
  by_cases h0 : x = 0
  · subst h0
    go_wp2
    go_ret
    exact ⟨_, rfl, ⟨_, rfl, by decide, by decide⟩, R, K⟩
  · by_cases h1 : x = 1
    · subst h1
      go_wp2
      go_ret
      exact ⟨_, rfl, ⟨_, rfl, by decide, by decide⟩, R, K⟩
    · have e0 : (x == 0) = false := by simpa using h0
      have e1 : (x == 1) = false := by simpa using h1
      go_wp2_with fail
      refine (word_any g ao n cap cs _ R).mono ?_
      rintro e w2 ⟨_, rfl, ⟨y, rfl, y0, y1⟩, R2, K2⟩
      replace K := K.trans K2
      clear R K2
      have hw : IntKind.u64.wrap 13 = 13 := by rw [IntKind.wrap_u64]; decide
      go_wp2
      go_ret
      exact ⟨_, rfl, ⟨_, rfl, by omega, by omega⟩, R2, K⟩
/-- A point of numbers, whatever they are. -/
def IsPt (v : Value) : Prop := ∃ x y z : Int, v = PV x y z ∧ told x = true ∧ told y = true ∧ told z = true
theorem wide_W4 {v : Value} (h : IsWide v) : ∃ x : Int, v = W4 x ∧ told x = true := by
  obtain ⟨a3, a2, a1, a0, rfl, h3, h2, h1, h0⟩ := h
  obtain ⟨f3, f2, f1, f0⟩ := wd_of h3 h2 h1 h0 rfl
  have ht : told (sw a3 a2 a1 a0) = true := by
    unfold told
    apply decide_eq_true
    unfold Word sw uw at *
    split <;> omega
  exact ⟨sw a3 a2 a1 a0, by show _ = Value.agg #[.int .u64 (ww3 (sw a3 a2 a1 a0)), .int .u64 (ww2 (sw a3 a2 a1 a0)), .int .u64 (ww1 (sw a3 a2 a1 a0)), .int .u64 (ww0 (sw a3 a2 a1 a0))]; rw [← f3, ← f2, ← f1, ← f0], ht⟩
theorem PV0 : PV 0 0 0 = .agg #[.int .u64 0, .int .u64 0, .int .u64 0, .int .u64 0, .int .u64 0, .int .u64 0, .int .u64 0, .int .u64 0, .int .u64 0, .int .u64 0, .int .u64 0, .int .u64 0] := by
  have h3 : ww3 0 = 0 := by decide
  have h2 : ww2 0 = 0 := by decide
  have h1 : ww1 0 = 0 := by decide
  have h0 : ww0 0 = 0 := by decide
  show Value.agg #[.int .u64 (ww3 0), .int .u64 (ww2 0), .int .u64 (ww1 0), .int .u64 (ww0 0), .int .u64 (ww3 0), .int .u64 (ww2 0), .int .u64 (ww1 0), .int .u64 (ww0 0), .int .u64 (ww3 0), .int .u64 (ww2 0), .int .u64 (ww1 0), .int .u64 (ww0 0)] = _
  rw [h3, h2, h1, h0]
theorem ptV_pt (x y z : Int) : ∃ a b c t, ptV x y z = .tuple #[PV a b c, .bool t] ∧ told a = true ∧ told b = true ∧ told c = true := by
  unfold ptV
  split
  · rename_i h
    simp at h
    exact ⟨x, y, z, true, rfl, told_small h.1.1, told_small h.1.2, told_small h.2⟩
  · exact ⟨0, 0, 0, false, by rw [PV0], by decide, by decide, by decide⟩
theorem pmV_pt (x y z : Int) : ∃ a b c t, pmV x y z = .tuple #[PV a b c, .bool t] ∧ told a = true ∧ told b = true ∧ told c = true := by
  unfold pmV
  split
  · exact ⟨0, 0, 0, false, by rw [PV0], by decide, by decide, by decide⟩
  · exact ptV_pt _ _ _
end Go.Proofs.Ytnnojeggjnddpaa

/- Points drawn from a code: the walks. -/
namespace Go.Proofs.Ytnnojeggjnddpaa
open Go.RowKit
theorem pt_done {w W : World} {g : Nat} {ao : Option Addr} {n cap : Nat} {cs : List Int} {a b c : Int} (hg : g < w.heap.size) (R : Rdr W g ao n cap cs) (K : Kept g w W) (ta : told a = true) (tb : told b = true) (tc : told c = true) {v0 v1 v2 v3 v4 v5 v6 v7 v8 v9 v10 v11 : Value} :
    RdP g ao n cap cs IsPt w (.returned (PV a b c)) ((((((((((((W.setCell ⟨w.heap.size, 0, none⟩ v0).setCell ⟨w.heap.size, 1, none⟩ v1).setCell ⟨w.heap.size, 2, none⟩ v2).setCell ⟨w.heap.size, 3, none⟩ v3).setCell ⟨w.heap.size, 4, none⟩ v4).setCell ⟨w.heap.size, 5, none⟩ v5).setCell ⟨w.heap.size, 6, none⟩ v6).setCell ⟨w.heap.size, 7, none⟩ v7).setCell ⟨w.heap.size, 8, none⟩ v8).setCell ⟨w.heap.size, 9, none⟩ v9).setCell ⟨w.heap.size, 10, none⟩ v10).setCell ⟨w.heap.size, 11, none⟩ v11) := by
  refine ⟨_, rfl, ⟨a, b, c, rfl, ta, tb, tc⟩, ?_, ?_⟩
  · repeat' (refine Rdr.setN ?_ (by exact hg) _)
    exact R
  · repeat' (refine Kept.setN ?_ (by simp) (by simp; omega) _)
    exact K
theorem told_w (n : Int) : told (wrap64 n) = true := told_small (small_int (by unfold wrap64; omega) (by unfold wrap64; omega))
theorem specOfW (n : Int) (w : World) (h0 : -9223372036854775808 ≤ n) (h1 : n ≤ 9223372036854775807) : Calls Try.prog 60 #[.int .i64 n] w (VP (W4 n) w) := by
  refine (specOf_any n w h0 h1).mono ?_
  rintro e w' ⟨a3, a2, a1, a0, rfl, g3, g2, g1, g0, hs, hB⟩
  obtain ⟨rfl, rfl, rfl, rfl⟩ := wd_of g3 g2 g1 g0 hs
  exact ⟨rfl, hB⟩
/-- A spot of small numbers. -/
def IsSp6 (v : Value) : Prop := ∃ x y : Int, v = .agg #[.int .i64 x, .int .i64 y] ∧ -6 ≤ x ∧ x < 7 ∧ -6 ≤ y ∧ y < 7
set_option maxRecDepth 100000 in
set_option maxHeartbeats 1000000 in
theorem spot_any (g : Nat) (ao : Option Addr) (n cap : Nat) (cs : List Int) (w : World) (h : Rdr w g ao n cap cs) :
    Calls Try.prog 108 #[.pointer (some ⟨g, 0, none⟩)] w (RdP g ao n cap cs IsSp6 w) := by
  have hg := h.lt
  have hne : w.heap.size ≠ g := by omega
  have B := Blk.new w [.int .i64 0, .int .i64 0] 141 rfl
  have R := h.alloc (.cells #[.int .i64 0, .int .i64 0] 141)
  have K := (Kept.refl g w).alloc (.cells #[.int .i64 0, .int .i64 0] 141)
  clear h
  go_enter Try.func108, Try.ntmps108
  go_wp2_with fail
  refine (near_p6 g ao n cap cs _ R).mono ?_
  rintro e w1 ⟨_, rfl, ⟨y, rfl, y0, y1⟩, R1, K1⟩
  replace B := B.kept K1 hne; replace K := K.trans K1
  clear R K1
  have R := R1
  clear R1
  go_wp2_with fail
  refine (near_p6 g ao n cap cs _ R).mono ?_
  rintro e w2 ⟨_, rfl, ⟨y', rfl, y0', y1'⟩, R1, K1⟩
  replace B := B.kept K1 hne; replace K := K.trans K1
  clear R K1
  have R := R1
  clear R1
  have o0 := B.c 0 rfl; have f0 := B.f 0 rfl; have o1 := B.c 1 rfl; have f1 := B.f 1 rfl; have ol := B.lt
  clear B
  go_wp2
  refine bodyPost_ret (v := .agg #[.int .i64 y, .int .i64 y']) (by simp [results, Try.results108, go_sem, o0, o1]) rfl ?_
  exact ⟨_, rfl, ⟨y, y', rfl, y0, y1, y0', y1'⟩, (R.setN (by exact hg) _).setN (by exact hg) _, (K.setN (by simp) (by simp; omega) _).setN (by simp) (by simp; omega) _⟩
set_option maxRecDepth 100000 in
set_option maxHeartbeats 4000000 in
theorem point_any (g : Nat) (ao : Option Addr) (n cap : Nat) (cs : List Int) (w : World) (h : Rdr w g ao n cap cs) :
    Calls Try.prog 75 #[.pointer (some ⟨g, 0, none⟩)] w (RdP g ao n cap cs IsPt w) := by
  have hg := h.lt
  have hne : w.heap.size ≠ g := by omega
  have B := Blk.new w [.int .u64 0, .int .u64 0, .int .u64 0, .int .u64 0, .int .u64 0, .int .u64 0, .int .u64 0, .int .u64 0, .int .u64 0, .int .u64 0, .int .u64 0, .int .u64 0] 47 rfl
  have R := h.alloc (.cells #[.int .u64 0, .int .u64 0, .int .u64 0, .int .u64 0, .int .u64 0, .int .u64 0, .int .u64 0, .int .u64 0, .int .u64 0, .int .u64 0, .int .u64 0, .int .u64 0] 47)
  have K := (Kept.refl g w).alloc (.cells #[.int .u64 0, .int .u64 0, .int .u64 0, .int .u64 0, .int .u64 0, .int .u64 0, .int .u64 0, .int .u64 0, .int .u64 0, .int .u64 0, .int .u64 0, .int .u64 0] 47)
  have SO := fun n w h0 h1 => specOfW n w h0 h1
  clear h
  go_enter Try.func75, Try.ntmps75
  go_wp2_with fail
  refine (below_any 10 (by decide) (by decide) g ao n cap cs _ R).mono ?_
  rintro e w1 ⟨_, rfl, ⟨x, rfl, x0, x1⟩, R1, K1⟩
  replace B := B.kept K1 hne; replace K := K.trans K1
  clear R K1
  have R := R1
  clear R1
  rcases (by omega : x = 0 ∨ x = 1 ∨ (x = 2 ∨ x = 3 ∨ x = 4) ∨ x = 5 ∨ (x = 6 ∨ x = 7 ∨ x = 8 ∨ x = 9)) with rfl | rfl | hx | rfl | hx
  · clear SO x0 x1
    go_wp2_with fail
    refine (wide_any g ao n cap cs _ R).mono ?_
    rintro e w2 ⟨v_, rfl, hv, R1, K1⟩
    replace B := B.kept K1 hne; replace K := K.trans K1
    clear R K1
    have R := R1
    clear R1
    obtain ⟨xa, rfl, txa⟩ := wide_W4 hv
    clear hv
    go_wp2_with fail
    refine (wide_any g ao n cap cs _ R).mono ?_
    rintro e w3 ⟨v_, rfl, hv, R1, K1⟩
    replace B := B.kept K1 hne; replace K := K.trans K1
    clear R K1
    have R := R1
    clear R1
    obtain ⟨xb, rfl, txb⟩ := wide_W4 hv
    clear hv
    go_wp2_with fail
    refine (wide_any g ao n cap cs _ R).mono ?_
    rintro e w4 ⟨v_, rfl, hv, R1, K1⟩
    replace B := B.kept K1 hne; replace K := K.trans K1
    clear R K1
    have R := R1
    clear R1
    obtain ⟨xc, rfl, txc⟩ := wide_W4 hv
    clear hv
    have PM := fun w => specPointMake_det xa xb xc txa txb txc w
    obtain ⟨a, b, c, tt, hpm, ta, tb, tc⟩ := pmV_pt xa xb xc
    rw [hpm] at PM
    clear hpm
    go_wp2_with fail
    refine (PM _).mono ?_
    rintro e w5 ⟨rfl, hB⟩
    replace R := R.step hB; replace B := B.step hB; replace K := K.trans (Kept.of hB)
    clear hB
    clear PM
    replace R := R.alloc (.cells #[.int .u64 (ww3 a), .int .u64 (ww2 a), .int .u64 (ww1 a), .int .u64 (ww0 a), .int .u64 (ww3 b), .int .u64 (ww2 b), .int .u64 (ww1 b), .int .u64 (ww0 b), .int .u64 (ww3 c), .int .u64 (ww2 c), .int .u64 (ww1 c), .int .u64 (ww0 c)] 47); replace B := B.alloc (.cells #[.int .u64 (ww3 a), .int .u64 (ww2 a), .int .u64 (ww1 a), .int .u64 (ww0 a), .int .u64 (ww3 b), .int .u64 (ww2 b), .int .u64 (ww1 b), .int .u64 (ww0 b), .int .u64 (ww3 c), .int .u64 (ww2 c), .int .u64 (ww1 c), .int .u64 (ww0 c)] 47); replace K := K.alloc (.cells #[.int .u64 (ww3 a), .int .u64 (ww2 a), .int .u64 (ww1 a), .int .u64 (ww0 a), .int .u64 (ww3 b), .int .u64 (ww2 b), .int .u64 (ww1 b), .int .u64 (ww0 b), .int .u64 (ww3 c), .int .u64 (ww2 c), .int .u64 (ww1 c), .int .u64 (ww0 c)] 47)
    have o0 := B.c 0 rfl; have f0 := B.f 0 rfl; have o1 := B.c 1 rfl; have f1 := B.f 1 rfl; have o2 := B.c 2 rfl; have f2 := B.f 2 rfl; have o3 := B.c 3 rfl; have f3 := B.f 3 rfl; have o4 := B.c 4 rfl; have f4 := B.f 4 rfl; have o5 := B.c 5 rfl; have f5 := B.f 5 rfl; have o6 := B.c 6 rfl; have f6 := B.f 6 rfl; have o7 := B.c 7 rfl; have f7 := B.f 7 rfl; have o8 := B.c 8 rfl; have f8 := B.f 8 rfl; have o9 := B.c 9 rfl; have f9 := B.f 9 rfl; have o10 := B.c 10 rfl; have f10 := B.f 10 rfl; have o11 := B.c 11 rfl; have f11 := B.f 11 rfl; have ol := B.lt
    clear B
    go_wp2
    refine bodyPost_ret (v := PV a b c) (by simp [results, Try.results75, go_sem, o0, o1, o2, o3, o4, o5, o6, o7, o8, o9, o10, o11]) rfl ?_
    exact pt_done hg R K ta tb tc
  · clear x0 x1
    go_wp2_with fail
    refine (once_any 4 (by decide) (by decide) g ao n cap cs _ R).mono ?_
    rintro e w2 ⟨_, rfl, ⟨bb, rfl⟩, R1, K1⟩
    replace B := B.kept K1 hne; replace K := K.trans K1
    clear R K1
    have R := R1
    clear R1
    cases bb
    · go_wp2_with fail
      refine (word_any g ao n cap cs _ R).mono ?_
      rintro e w3 ⟨_, rfl, ⟨y, rfl, y0, y1⟩, R1, K1⟩
      replace B := B.kept K1 hne; replace K := K.trans K1
      clear R K1
      have R := R1
      clear R1
      go_wp2_with fail
      refine (SO _ _ (by first | omega | (unfold wrap64; omega)) (by first | omega | (unfold wrap64; omega))).mono ?_
      rintro e w4 ⟨rfl, hB⟩
      replace R := R.step hB; replace B := B.step hB; replace K := K.trans (Kept.of hB)
      clear hB
      go_wp2_with fail
      refine (word_any g ao n cap cs _ R).mono ?_
      rintro e w5 ⟨_, rfl, ⟨y', rfl, y0', y1'⟩, R1, K1⟩
      replace B := B.kept K1 hne; replace K := K.trans K1
      clear R K1
      have R := R1
      clear R1
      go_wp2_with fail
      refine (SO _ _ (by first | omega | (unfold wrap64; omega)) (by first | omega | (unfold wrap64; omega))).mono ?_
      rintro e w6 ⟨rfl, hB⟩
      replace R := R.step hB; replace B := B.step hB; replace K := K.trans (Kept.of hB)
      clear hB
      go_wp2_with fail
      refine (word_any g ao n cap cs _ R).mono ?_
      rintro e w7 ⟨_, rfl, ⟨y2, rfl, y20, y21⟩, R1, K1⟩
      replace B := B.kept K1 hne; replace K := K.trans K1
      clear R K1
      have R := R1
      clear R1
      go_wp2_with fail
      refine (SO _ _ (by first | omega | (unfold wrap64; omega)) (by first | omega | (unfold wrap64; omega))).mono ?_
      rintro e w8 ⟨rfl, hB⟩
      replace R := R.step hB; replace B := B.step hB; replace K := K.trans (Kept.of hB)
      clear hB
      have PM := fun w => specPointMake_det (wrap64 y) (wrap64 y') (wrap64 (1 + y2 / 2)) (told_w _) (told_w _) (told_w _) w
      obtain ⟨a, b, c, tt, hpm, ta, tb, tc⟩ := pmV_pt (wrap64 y) (wrap64 y') (wrap64 (1 + y2 / 2))
      rw [hpm] at PM
      clear hpm
      go_wp2_with fail
      refine (PM _).mono ?_
      rintro e w9 ⟨rfl, hB⟩
      replace R := R.step hB; replace B := B.step hB; replace K := K.trans (Kept.of hB)
      clear hB
      clear PM
      replace R := R.alloc (.cells #[.int .u64 (ww3 a), .int .u64 (ww2 a), .int .u64 (ww1 a), .int .u64 (ww0 a), .int .u64 (ww3 b), .int .u64 (ww2 b), .int .u64 (ww1 b), .int .u64 (ww0 b), .int .u64 (ww3 c), .int .u64 (ww2 c), .int .u64 (ww1 c), .int .u64 (ww0 c)] 47); replace B := B.alloc (.cells #[.int .u64 (ww3 a), .int .u64 (ww2 a), .int .u64 (ww1 a), .int .u64 (ww0 a), .int .u64 (ww3 b), .int .u64 (ww2 b), .int .u64 (ww1 b), .int .u64 (ww0 b), .int .u64 (ww3 c), .int .u64 (ww2 c), .int .u64 (ww1 c), .int .u64 (ww0 c)] 47); replace K := K.alloc (.cells #[.int .u64 (ww3 a), .int .u64 (ww2 a), .int .u64 (ww1 a), .int .u64 (ww0 a), .int .u64 (ww3 b), .int .u64 (ww2 b), .int .u64 (ww1 b), .int .u64 (ww0 b), .int .u64 (ww3 c), .int .u64 (ww2 c), .int .u64 (ww1 c), .int .u64 (ww0 c)] 47)
      have o0 := B.c 0 rfl; have f0 := B.f 0 rfl; have o1 := B.c 1 rfl; have f1 := B.f 1 rfl; have o2 := B.c 2 rfl; have f2 := B.f 2 rfl; have o3 := B.c 3 rfl; have f3 := B.f 3 rfl; have o4 := B.c 4 rfl; have f4 := B.f 4 rfl; have o5 := B.c 5 rfl; have f5 := B.f 5 rfl; have o6 := B.c 6 rfl; have f6 := B.f 6 rfl; have o7 := B.c 7 rfl; have f7 := B.f 7 rfl; have o8 := B.c 8 rfl; have f8 := B.f 8 rfl; have o9 := B.c 9 rfl; have f9 := B.f 9 rfl; have o10 := B.c 10 rfl; have f10 := B.f 10 rfl; have o11 := B.c 11 rfl; have f11 := B.f 11 rfl; have ol := B.lt
      clear B
      go_wp2
      refine bodyPost_ret (v := PV a b c) (by simp [results, Try.results75, go_sem, o0, o1, o2, o3, o4, o5, o6, o7, o8, o9, o10, o11]) rfl ?_
      exact pt_done hg R K ta tb tc
    · clear SO
      go_wp2_with fail
      refine (wide_any g ao n cap cs _ R).mono ?_
      rintro e w3 ⟨v_, rfl, hv, R1, K1⟩
      replace B := B.kept K1 hne; replace K := K.trans K1
      clear R K1
      have R := R1
      clear R1
      obtain ⟨a, rfl, ta⟩ := wide_W4 hv
      clear hv
      go_wp2_with fail
      refine (wide_any g ao n cap cs _ R).mono ?_
      rintro e w4 ⟨v_, rfl, hv, R1, K1⟩
      replace B := B.kept K1 hne; replace K := K.trans K1
      clear R K1
      have R := R1
      clear R1
      obtain ⟨b, rfl, tb⟩ := wide_W4 hv
      clear hv
      go_wp2_with fail
      refine (wide_any g ao n cap cs _ R).mono ?_
      rintro e w5 ⟨v_, rfl, hv, R1, K1⟩
      replace B := B.kept K1 hne; replace K := K.trans K1
      clear R K1
      have R := R1
      clear R1
      obtain ⟨c, rfl, tc⟩ := wide_W4 hv
      clear hv
      have o0 := B.c 0 rfl; have f0 := B.f 0 rfl; have o1 := B.c 1 rfl; have f1 := B.f 1 rfl; have o2 := B.c 2 rfl; have f2 := B.f 2 rfl; have o3 := B.c 3 rfl; have f3 := B.f 3 rfl; have o4 := B.c 4 rfl; have f4 := B.f 4 rfl; have o5 := B.c 5 rfl; have f5 := B.f 5 rfl; have o6 := B.c 6 rfl; have f6 := B.f 6 rfl; have o7 := B.c 7 rfl; have f7 := B.f 7 rfl; have o8 := B.c 8 rfl; have f8 := B.f 8 rfl; have o9 := B.c 9 rfl; have f9 := B.f 9 rfl; have o10 := B.c 10 rfl; have f10 := B.f 10 rfl; have o11 := B.c 11 rfl; have f11 := B.f 11 rfl; have ol := B.lt
      clear B
      go_wp2
      refine bodyPost_ret (v := PV a b c) (by simp [results, Try.results75, go_sem, o0, o1, o2, o3, o4, o5, o6, o7, o8, o9, o10, o11]) rfl ?_
      exact pt_done hg R K ta tb tc
  · rcases hx with rfl | rfl | rfl
    · clear x0 x1
      go_wp2_with fail
      refine (near_p40 g ao n cap cs _ R).mono ?_
      rintro e w2 ⟨_, rfl, ⟨y, rfl, y0, y1⟩, R1, K1⟩
      replace B := B.kept K1 hne; replace K := K.trans K1
      clear R K1
      have R := R1
      clear R1
      go_wp2_with fail
      refine (SO _ _ (by first | omega | (unfold wrap64; omega)) (by first | omega | (unfold wrap64; omega))).mono ?_
      rintro e w3 ⟨rfl, hB⟩
      replace R := R.step hB; replace B := B.step hB; replace K := K.trans (Kept.of hB)
      clear hB
      go_wp2_with fail
      refine (near_p40 g ao n cap cs _ R).mono ?_
      rintro e w4 ⟨_, rfl, ⟨y', rfl, y0', y1'⟩, R1, K1⟩
      replace B := B.kept K1 hne; replace K := K.trans K1
      clear R K1
      have R := R1
      clear R1
      go_wp2_with fail
      refine (SO _ _ (by first | omega | (unfold wrap64; omega)) (by first | omega | (unfold wrap64; omega))).mono ?_
      rintro e w5 ⟨rfl, hB⟩
      replace R := R.step hB; replace B := B.step hB; replace K := K.trans (Kept.of hB)
      clear hB
      go_wp2_with fail
      refine (near_p9 g ao n cap cs _ R).mono ?_
      rintro e w6 ⟨_, rfl, ⟨y2, rfl, y20, y21⟩, R1, K1⟩
      replace B := B.kept K1 hne; replace K := K.trans K1
      clear R K1
      have R := R1
      clear R1
      go_wp2_with fail
      refine (SO _ _ (by first | omega | (unfold wrap64; omega)) (by first | omega | (unfold wrap64; omega))).mono ?_
      rintro e w7 ⟨rfl, hB⟩
      replace R := R.step hB; replace B := B.step hB; replace K := K.trans (Kept.of hB)
      clear hB
      have PM := fun w => specPointMake_det y y' (1 + y2) (told_small (small_int (by omega) (by omega))) (told_small (small_int (by omega) (by omega))) (told_small (small_int (by omega) (by omega))) w
      obtain ⟨a, b, c, tt, hpm, ta, tb, tc⟩ := pmV_pt y y' (1 + y2)
      rw [hpm] at PM
      clear hpm
      go_wp2_with fail
      refine (PM _).mono ?_
      rintro e w8 ⟨rfl, hB⟩
      replace R := R.step hB; replace B := B.step hB; replace K := K.trans (Kept.of hB)
      clear hB
      clear PM
      replace R := R.alloc (.cells #[.int .u64 (ww3 a), .int .u64 (ww2 a), .int .u64 (ww1 a), .int .u64 (ww0 a), .int .u64 (ww3 b), .int .u64 (ww2 b), .int .u64 (ww1 b), .int .u64 (ww0 b), .int .u64 (ww3 c), .int .u64 (ww2 c), .int .u64 (ww1 c), .int .u64 (ww0 c)] 47); replace B := B.alloc (.cells #[.int .u64 (ww3 a), .int .u64 (ww2 a), .int .u64 (ww1 a), .int .u64 (ww0 a), .int .u64 (ww3 b), .int .u64 (ww2 b), .int .u64 (ww1 b), .int .u64 (ww0 b), .int .u64 (ww3 c), .int .u64 (ww2 c), .int .u64 (ww1 c), .int .u64 (ww0 c)] 47); replace K := K.alloc (.cells #[.int .u64 (ww3 a), .int .u64 (ww2 a), .int .u64 (ww1 a), .int .u64 (ww0 a), .int .u64 (ww3 b), .int .u64 (ww2 b), .int .u64 (ww1 b), .int .u64 (ww0 b), .int .u64 (ww3 c), .int .u64 (ww2 c), .int .u64 (ww1 c), .int .u64 (ww0 c)] 47)
      have o0 := B.c 0 rfl; have f0 := B.f 0 rfl; have o1 := B.c 1 rfl; have f1 := B.f 1 rfl; have o2 := B.c 2 rfl; have f2 := B.f 2 rfl; have o3 := B.c 3 rfl; have f3 := B.f 3 rfl; have o4 := B.c 4 rfl; have f4 := B.f 4 rfl; have o5 := B.c 5 rfl; have f5 := B.f 5 rfl; have o6 := B.c 6 rfl; have f6 := B.f 6 rfl; have o7 := B.c 7 rfl; have f7 := B.f 7 rfl; have o8 := B.c 8 rfl; have f8 := B.f 8 rfl; have o9 := B.c 9 rfl; have f9 := B.f 9 rfl; have o10 := B.c 10 rfl; have f10 := B.f 10 rfl; have o11 := B.c 11 rfl; have f11 := B.f 11 rfl; have ol := B.lt
      clear B
      go_wp2
      refine bodyPost_ret (v := PV a b c) (by simp [results, Try.results75, go_sem, o0, o1, o2, o3, o4, o5, o6, o7, o8, o9, o10, o11]) rfl ?_
      exact pt_done hg R K ta tb tc
    · clear x0 x1
      go_wp2_with fail
      refine (near_p40 g ao n cap cs _ R).mono ?_
      rintro e w2 ⟨_, rfl, ⟨y, rfl, y0, y1⟩, R1, K1⟩
      replace B := B.kept K1 hne; replace K := K.trans K1
      clear R K1
      have R := R1
      clear R1
      go_wp2_with fail
      refine (SO _ _ (by first | omega | (unfold wrap64; omega)) (by first | omega | (unfold wrap64; omega))).mono ?_
      rintro e w3 ⟨rfl, hB⟩
      replace R := R.step hB; replace B := B.step hB; replace K := K.trans (Kept.of hB)
      clear hB
      go_wp2_with fail
      refine (near_p40 g ao n cap cs _ R).mono ?_
      rintro e w4 ⟨_, rfl, ⟨y', rfl, y0', y1'⟩, R1, K1⟩
      replace B := B.kept K1 hne; replace K := K.trans K1
      clear R K1
      have R := R1
      clear R1
      go_wp2_with fail
      refine (SO _ _ (by first | omega | (unfold wrap64; omega)) (by first | omega | (unfold wrap64; omega))).mono ?_
      rintro e w5 ⟨rfl, hB⟩
      replace R := R.step hB; replace B := B.step hB; replace K := K.trans (Kept.of hB)
      clear hB
      go_wp2_with fail
      refine (near_p9 g ao n cap cs _ R).mono ?_
      rintro e w6 ⟨_, rfl, ⟨y2, rfl, y20, y21⟩, R1, K1⟩
      replace B := B.kept K1 hne; replace K := K.trans K1
      clear R K1
      have R := R1
      clear R1
      go_wp2_with fail
      refine (SO _ _ (by first | omega | (unfold wrap64; omega)) (by first | omega | (unfold wrap64; omega))).mono ?_
      rintro e w7 ⟨rfl, hB⟩
      replace R := R.step hB; replace B := B.step hB; replace K := K.trans (Kept.of hB)
      clear hB
      have PM := fun w => specPointMake_det y y' (1 + y2) (told_small (small_int (by omega) (by omega))) (told_small (small_int (by omega) (by omega))) (told_small (small_int (by omega) (by omega))) w
      obtain ⟨a, b, c, tt, hpm, ta, tb, tc⟩ := pmV_pt y y' (1 + y2)
      rw [hpm] at PM
      clear hpm
      go_wp2_with fail
      refine (PM _).mono ?_
      rintro e w8 ⟨rfl, hB⟩
      replace R := R.step hB; replace B := B.step hB; replace K := K.trans (Kept.of hB)
      clear hB
      clear PM
      replace R := R.alloc (.cells #[.int .u64 (ww3 a), .int .u64 (ww2 a), .int .u64 (ww1 a), .int .u64 (ww0 a), .int .u64 (ww3 b), .int .u64 (ww2 b), .int .u64 (ww1 b), .int .u64 (ww0 b), .int .u64 (ww3 c), .int .u64 (ww2 c), .int .u64 (ww1 c), .int .u64 (ww0 c)] 47); replace B := B.alloc (.cells #[.int .u64 (ww3 a), .int .u64 (ww2 a), .int .u64 (ww1 a), .int .u64 (ww0 a), .int .u64 (ww3 b), .int .u64 (ww2 b), .int .u64 (ww1 b), .int .u64 (ww0 b), .int .u64 (ww3 c), .int .u64 (ww2 c), .int .u64 (ww1 c), .int .u64 (ww0 c)] 47); replace K := K.alloc (.cells #[.int .u64 (ww3 a), .int .u64 (ww2 a), .int .u64 (ww1 a), .int .u64 (ww0 a), .int .u64 (ww3 b), .int .u64 (ww2 b), .int .u64 (ww1 b), .int .u64 (ww0 b), .int .u64 (ww3 c), .int .u64 (ww2 c), .int .u64 (ww1 c), .int .u64 (ww0 c)] 47)
      have o0 := B.c 0 rfl; have f0 := B.f 0 rfl; have o1 := B.c 1 rfl; have f1 := B.f 1 rfl; have o2 := B.c 2 rfl; have f2 := B.f 2 rfl; have o3 := B.c 3 rfl; have f3 := B.f 3 rfl; have o4 := B.c 4 rfl; have f4 := B.f 4 rfl; have o5 := B.c 5 rfl; have f5 := B.f 5 rfl; have o6 := B.c 6 rfl; have f6 := B.f 6 rfl; have o7 := B.c 7 rfl; have f7 := B.f 7 rfl; have o8 := B.c 8 rfl; have f8 := B.f 8 rfl; have o9 := B.c 9 rfl; have f9 := B.f 9 rfl; have o10 := B.c 10 rfl; have f10 := B.f 10 rfl; have o11 := B.c 11 rfl; have f11 := B.f 11 rfl; have ol := B.lt
      clear B
      go_wp2
      refine bodyPost_ret (v := PV a b c) (by simp [results, Try.results75, go_sem, o0, o1, o2, o3, o4, o5, o6, o7, o8, o9, o10, o11]) rfl ?_
      exact pt_done hg R K ta tb tc
    · clear x0 x1
      go_wp2_with fail
      refine (near_p40 g ao n cap cs _ R).mono ?_
      rintro e w2 ⟨_, rfl, ⟨y, rfl, y0, y1⟩, R1, K1⟩
      replace B := B.kept K1 hne; replace K := K.trans K1
      clear R K1
      have R := R1
      clear R1
      go_wp2_with fail
      refine (SO _ _ (by first | omega | (unfold wrap64; omega)) (by first | omega | (unfold wrap64; omega))).mono ?_
      rintro e w3 ⟨rfl, hB⟩
      replace R := R.step hB; replace B := B.step hB; replace K := K.trans (Kept.of hB)
      clear hB
      go_wp2_with fail
      refine (near_p40 g ao n cap cs _ R).mono ?_
      rintro e w4 ⟨_, rfl, ⟨y', rfl, y0', y1'⟩, R1, K1⟩
      replace B := B.kept K1 hne; replace K := K.trans K1
      clear R K1
      have R := R1
      clear R1
      go_wp2_with fail
      refine (SO _ _ (by first | omega | (unfold wrap64; omega)) (by first | omega | (unfold wrap64; omega))).mono ?_
      rintro e w5 ⟨rfl, hB⟩
      replace R := R.step hB; replace B := B.step hB; replace K := K.trans (Kept.of hB)
      clear hB
      go_wp2_with fail
      refine (near_p9 g ao n cap cs _ R).mono ?_
      rintro e w6 ⟨_, rfl, ⟨y2, rfl, y20, y21⟩, R1, K1⟩
      replace B := B.kept K1 hne; replace K := K.trans K1
      clear R K1
      have R := R1
      clear R1
      go_wp2_with fail
      refine (SO _ _ (by first | omega | (unfold wrap64; omega)) (by first | omega | (unfold wrap64; omega))).mono ?_
      rintro e w7 ⟨rfl, hB⟩
      replace R := R.step hB; replace B := B.step hB; replace K := K.trans (Kept.of hB)
      clear hB
      have PM := fun w => specPointMake_det y y' (1 + y2) (told_small (small_int (by omega) (by omega))) (told_small (small_int (by omega) (by omega))) (told_small (small_int (by omega) (by omega))) w
      obtain ⟨a, b, c, tt, hpm, ta, tb, tc⟩ := pmV_pt y y' (1 + y2)
      rw [hpm] at PM
      clear hpm
      go_wp2_with fail
      refine (PM _).mono ?_
      rintro e w8 ⟨rfl, hB⟩
      replace R := R.step hB; replace B := B.step hB; replace K := K.trans (Kept.of hB)
      clear hB
      clear PM
      replace R := R.alloc (.cells #[.int .u64 (ww3 a), .int .u64 (ww2 a), .int .u64 (ww1 a), .int .u64 (ww0 a), .int .u64 (ww3 b), .int .u64 (ww2 b), .int .u64 (ww1 b), .int .u64 (ww0 b), .int .u64 (ww3 c), .int .u64 (ww2 c), .int .u64 (ww1 c), .int .u64 (ww0 c)] 47); replace B := B.alloc (.cells #[.int .u64 (ww3 a), .int .u64 (ww2 a), .int .u64 (ww1 a), .int .u64 (ww0 a), .int .u64 (ww3 b), .int .u64 (ww2 b), .int .u64 (ww1 b), .int .u64 (ww0 b), .int .u64 (ww3 c), .int .u64 (ww2 c), .int .u64 (ww1 c), .int .u64 (ww0 c)] 47); replace K := K.alloc (.cells #[.int .u64 (ww3 a), .int .u64 (ww2 a), .int .u64 (ww1 a), .int .u64 (ww0 a), .int .u64 (ww3 b), .int .u64 (ww2 b), .int .u64 (ww1 b), .int .u64 (ww0 b), .int .u64 (ww3 c), .int .u64 (ww2 c), .int .u64 (ww1 c), .int .u64 (ww0 c)] 47)
      have o0 := B.c 0 rfl; have f0 := B.f 0 rfl; have o1 := B.c 1 rfl; have f1 := B.f 1 rfl; have o2 := B.c 2 rfl; have f2 := B.f 2 rfl; have o3 := B.c 3 rfl; have f3 := B.f 3 rfl; have o4 := B.c 4 rfl; have f4 := B.f 4 rfl; have o5 := B.c 5 rfl; have f5 := B.f 5 rfl; have o6 := B.c 6 rfl; have f6 := B.f 6 rfl; have o7 := B.c 7 rfl; have f7 := B.f 7 rfl; have o8 := B.c 8 rfl; have f8 := B.f 8 rfl; have o9 := B.c 9 rfl; have f9 := B.f 9 rfl; have o10 := B.c 10 rfl; have f10 := B.f 10 rfl; have o11 := B.c 11 rfl; have f11 := B.f 11 rfl; have ol := B.lt
      clear B
      go_wp2
      refine bodyPost_ret (v := PV a b c) (by simp [results, Try.results75, go_sem, o0, o1, o2, o3, o4, o5, o6, o7, o8, o9, o10, o11]) rfl ?_
      exact pt_done hg R K ta tb tc
  · clear SO x0 x1
    go_wp2_with fail
    refine (near_pm g ao n cap cs _ R).mono ?_
    rintro e w2 ⟨_, rfl, ⟨y, rfl, y0, y1⟩, R1, K1⟩
    replace B := B.kept K1 hne; replace K := K.trans K1
    clear R K1
    have R := R1
    clear R1
    go_wp2_with fail
    refine (near_pm g ao n cap cs _ R).mono ?_
    rintro e w3 ⟨_, rfl, ⟨y', rfl, y0', y1'⟩, R1, K1⟩
    replace B := B.kept K1 hne; replace K := K.trans K1
    clear R K1
    have R := R1
    clear R1
    go_wp2_with fail
    refine (specPointOf_any y y' (by omega) (by omega) (by omega) (by omega) _).mono ?_
    rintro e w4 ⟨rfl, hB⟩
    replace R := R.step hB; replace B := B.step hB; replace K := K.trans (Kept.of hB)
    clear hB
    have o0 := B.c 0 rfl; have f0 := B.f 0 rfl; have o1 := B.c 1 rfl; have f1 := B.f 1 rfl; have o2 := B.c 2 rfl; have f2 := B.f 2 rfl; have o3 := B.c 3 rfl; have f3 := B.f 3 rfl; have o4 := B.c 4 rfl; have f4 := B.f 4 rfl; have o5 := B.c 5 rfl; have f5 := B.f 5 rfl; have o6 := B.c 6 rfl; have f6 := B.f 6 rfl; have o7 := B.c 7 rfl; have f7 := B.f 7 rfl; have o8 := B.c 8 rfl; have f8 := B.f 8 rfl; have o9 := B.c 9 rfl; have f9 := B.f 9 rfl; have o10 := B.c 10 rfl; have f10 := B.f 10 rfl; have o11 := B.c 11 rfl; have f11 := B.f 11 rfl; have ol := B.lt
    clear B
    go_wp2
    refine bodyPost_ret (v := PV y y' 1) (by simp [results, Try.results75, go_sem, o0, o1, o2, o3, o4, o5, o6, o7, o8, o9, o10, o11]) rfl ?_
    exact pt_done hg R K (told_small (small_int (by omega) (by omega))) (told_small (small_int (by omega) (by omega))) (by decide)
  · clear SO x0 x1
    rcases hx with rfl | rfl | rfl | rfl
    all_goals (
      go_wp2_with fail
      refine (spot_any g ao n cap cs _ R).mono ?_
      rintro e w2 ⟨_, rfl, ⟨y, y', rfl, y0, y1, y0', y1'⟩, R1, K1⟩
      replace B := B.kept K1 hne; replace K := K.trans K1
      clear R K1
      have R := R1
      clear R1
      go_wp2_with fail
      refine (specPointOf_any y y' (by omega) (by omega) (by omega) (by omega) _).mono ?_
      rintro e w3 ⟨rfl, hB⟩
      replace R := R.step hB; replace B := B.step hB; replace K := K.trans (Kept.of hB)
      clear hB
      have o0 := B.c 0 rfl; have f0 := B.f 0 rfl; have o1 := B.c 1 rfl; have f1 := B.f 1 rfl; have o2 := B.c 2 rfl; have f2 := B.f 2 rfl; have o3 := B.c 3 rfl; have f3 := B.f 3 rfl; have o4 := B.c 4 rfl; have f4 := B.f 4 rfl; have o5 := B.c 5 rfl; have f5 := B.f 5 rfl; have o6 := B.c 6 rfl; have f6 := B.f 6 rfl; have o7 := B.c 7 rfl; have f7 := B.f 7 rfl; have o8 := B.c 8 rfl; have f8 := B.f 8 rfl; have o9 := B.c 9 rfl; have f9 := B.f 9 rfl; have o10 := B.c 10 rfl; have f10 := B.f 10 rfl; have o11 := B.c 11 rfl; have f11 := B.f 11 rfl; have ol := B.lt
      clear B
      go_wp2
      refine bodyPost_ret (v := PV y y' 1) (by simp [results, Try.results75, go_sem, o0, o1, o2, o3, o4, o5, o6, o7, o8, o9, o10, o11]) rfl ?_
      exact pt_done hg R K (told_small (small_int (by omega) (by omega))) (told_small (small_int (by omega) (by omega))) (by decide))
end Go.Proofs.Ytnnojeggjnddpaa

/- Numbers in decimal: the digits of a number, the number of digits; the reckoning, of no program. -/
namespace Go.Proofs.Ytnnojeggjnddpaa
/-- A text of these bytes. -/
def strL (l : List Nat) : ByteArray := strOfNums (l.map fun (n : Nat) => (n : Int))
/-- The bytes of a text. -/
def btL (s : ByteArray) : List Nat := s.data.toList.map UInt8.toNat
theorem btL_len (s : ByteArray) : (btL s).length = s.size := by
  unfold btL
  rw [List.length_map]
  rfl
theorem strL_size (l : List Nat) : (strL l).size = l.length := by simp [strL, strOfNums_size]
theorem strL_btL (s : ByteArray) : strL (btL s) = s := by
  obtain ⟨⟨l⟩⟩ := s
  simp only [strL, btL, strOfNums, List.map_map]
  congr 2
  conv => rhs; rw [← List.map_id l]
  exact List.map_congr_left fun x _ => by simp
theorem btL_strL {l : List Nat} (h : ∀ b ∈ l, b < 256) : btL (strL l) = l := by
  unfold btL strL
  rw [strOfNums_data, List.map_map, List.map_map]
  conv => rhs; rw [← List.map_id l]
  exact List.map_congr_left fun x hx => by
    have := h x hx
    simp
    omega
theorem btL_lt (s : ByteArray) : ∀ b ∈ btL s, b < 256 := by
  intro b hb
  obtain ⟨x, _, rfl⟩ := List.mem_map.1 hb
  exact x.toNat_lt
theorem strL_append (a b : List Nat) : strL (a ++ b) = strL a ++ strL b := by
  apply ByteArray.ext
  simp [strL, strOfNums]
theorem snocRec {P : List Nat → Prop} (h0 : P []) (h1 : ∀ l b, P l → P (l ++ [b])) (l : List Nat) : P l := by
  rw [← List.reverse_reverse l]
  induction l.reverse with
  | nil => exact h0
  | cons a t ih => rw [List.reverse_cons]; exact h1 _ _ ih
theorem head_app {a b : List Nat} (h : a ≠ []) : (a ++ b).head? = a.head? := by
  cases a with
  | nil => exact absurd rfl h
  | cons x t => rfl
/-- The digits of a number; 0 has none. -/
def dg (n : Nat) : List Nat := if n = 0 then [] else dg (n / 10) ++ [48 + n % 10]
termination_by n
decreasing_by omega
theorem dg_zero : dg 0 = [] := by rw [dg]; rfl
theorem dg_step {n : Nat} (h : 0 < n) : dg n = dg (n / 10) ++ [48 + n % 10] := by rw [dg, if_neg (by omega)]
theorem dg_ne {n : Nat} (h : 0 < n) : dg n ≠ [] := by rw [dg_step h]; simp
theorem dg_len (k : Nat) : ∀ n : Nat, n < 10 ^ k → (dg n).length ≤ k := by
  induction k with
  | zero => intro n h; obtain rfl : n = 0 := by simpa using h
            simp [dg_zero]
  | succ k ih =>
    intro n h
    rcases Nat.eq_zero_or_pos n with rfl | hp
    · simp [dg_zero]
    · rw [dg_step hp]
      have := ih (n / 10) (by rw [Nat.pow_succ] at h; omega)
      simp
      omega
/-- The digits of a number as they are written. -/
def dgs (n : Nat) : List Nat := dg (n / 10) ++ [48 + n % 10]
theorem dgs_pos {n : Nat} (h : 0 < n) : dgs n = dg n := by rw [dg_step h]; rfl
theorem dgs_zero : dgs 0 = [48] := by unfold dgs; rw [show 0 / 10 = 0 from rfl, dg_zero]; rfl
theorem dgs_len {k n : Nat} (hk : 0 < k) (h : n < 10 ^ k) : (dgs n).length ≤ k := by
  rcases Nat.eq_zero_or_pos n with rfl | hp
  · rw [dgs_zero]; exact hk
  · rw [dgs_pos hp]; exact dg_len k n h
/-- A number's text. -/
def txL (z : Int) : List Nat := (if z < 0 then [45] else []) ++ dgs z.natAbs
def txS (z : Int) : ByteArray := strL (txL z)
/-- A byte that is a digit. -/
def isD (b : Nat) : Prop := 48 ≤ b ∧ b ≤ 57
theorem dg_isD (n : Nat) : ∀ b ∈ dg n, isD b := by
  induction n using Nat.strongRecOn with
  | ind n ih =>
    rcases Nat.eq_zero_or_pos n with rfl | hp
    · simp [dg_zero]
    · rw [dg_step hp]
      intro b hb
      rcases List.mem_append.1 hb with h | h
      · exact ih (n / 10) (by omega) b h
      · rw [List.mem_singleton] at h; subst h; constructor <;> omega
theorem dgs_isD (n : Nat) : ∀ b ∈ dgs n, isD b := by
  intro b hb
  rcases List.mem_append.1 hb with h | h
  · exact dg_isD _ b h
  · rw [List.mem_singleton] at h; subst h; constructor <;> omega
theorem txL_lt (z : Int) : ∀ b ∈ txL z, b < 256 := by
  intro b hb
  rcases List.mem_append.1 hb with h | h
  · split at h
    · simp at h; omega
    · simp at h
  · have := dgs_isD _ b h; unfold isD at this; omega
/-- The number of these digits. -/
def rdN (l : List Nat) : Nat := l.foldl (fun n b => 10 * n + (b - 48)) 0
theorem rdN_nil : rdN [] = 0 := rfl
theorem rdN_snoc (l : List Nat) (b : Nat) : rdN (l ++ [b]) = 10 * rdN l + (b - 48) := by simp [rdN]
theorem rdN_take (l : List Nat) (k : Nat) (h : k < l.length) : rdN (l.take (k + 1)) = 10 * rdN (l.take k) + (l[k] - 48) := by
  rw [List.take_succ_eq_append_getElem h, rdN_snoc]
theorem rdN_lt (l : List Nat) (h : ∀ b ∈ l, isD b) : rdN l < 10 ^ l.length := by
  induction l using snocRec with
  | h0 => simp [rdN]
  | h1 l b ih =>
    rw [rdN_snoc]
    have h1 := ih fun x hx => h x (List.mem_append_left _ hx)
    have h2 := h b (by simp)
    unfold isD at h2
    simp [Nat.pow_succ]
    omega
theorem rdN_dg (n : Nat) : rdN (dg n) = n := by
  induction n using Nat.strongRecOn with
  | ind n ih =>
    rcases Nat.eq_zero_or_pos n with rfl | hp
    · simp [dg_zero, rdN]
    · rw [dg_step hp, rdN_snoc, ih (n / 10) (by omega)]
      omega
theorem rdN_dgs (n : Nat) : rdN (dgs n) = n := by unfold dgs; rw [rdN_snoc, rdN_dg]; omega
theorem dg_head (n : Nat) : (dg n).head? ≠ some 48 := by
  induction n using Nat.strongRecOn with
  | ind n ih =>
    rcases Nat.eq_zero_or_pos n with rfl | hp
    · simp [dg_zero]
    · rw [dg_step hp]
      by_cases h : n / 10 = 0
      · rw [h, dg_zero]; simp; omega
      · have := ih (n / 10) (by omega)
        have h2 := dg_ne (n := n / 10) (by omega)
        rw [head_app h2]
        exact this
theorem dg_rdN (l : List Nat) (h : ∀ b ∈ l, isD b) (h0 : l.head? ≠ some 48) : dg (rdN l) = l := by
  induction l using snocRec with
  | h0 => simp [rdN, dg_zero]
  | h1 l b ih =>
    have hb := h b (by simp)
    unfold isD at hb
    rw [rdN_snoc]
    rcases List.eq_nil_or_concat l with rfl | ⟨l', c, hl⟩
    · have h1 : b ≠ 48 := by simpa using h0
      rw [rdN_nil, dg_step (by omega), show (10 * 0 + (b - 48)) / 10 = 0 by omega, dg_zero]
      simp
      omega
    · have hne : l ≠ [] := by rw [hl]; simp
      have h1 : l.head? ≠ some 48 := by rw [head_app hne] at h0; exact h0
      have h2 := ih (fun x hx => h x (List.mem_append_left _ hx)) h1
      have h3 : 0 < rdN l := by
        rcases Nat.eq_zero_or_pos (rdN l) with h4 | h4
        · rw [h4, dg_zero] at h2; exact absurd h2.symm hne
        · exact h4
      rw [dg_step (by omega), show (10 * rdN l + (b - 48)) / 10 = rdN l by omega, h2, show 48 + (10 * rdN l + (b - 48)) % 10 = b by omega]
/-- That these bytes, with no sign, are a number in decimal. -/
def DecL (l : List Nat) : Prop := l ≠ [] ∧ (l.head? = some 48 → l = [48]) ∧ ∀ b ∈ l, isD b
theorem dgs_dec (n : Nat) : DecL (dgs n) := by
  refine ⟨by unfold dgs; simp, ?_, dgs_isD n⟩
  rcases Nat.eq_zero_or_pos n with rfl | hp
  · intro _; exact dgs_zero
  · intro h; rw [dgs_pos hp] at h; exact absurd h (dg_head n)
theorem dgs_rdN {l : List Nat} (h : DecL l) : dgs (rdN l) = l := by
  obtain ⟨h1, h2, h3⟩ := h
  by_cases h0 : l.head? = some 48
  · rw [h2 h0]; exact dgs_zero
  · have h4 := dg_rdN l h3 h0
    rcases Nat.eq_zero_or_pos (rdN l) with h5 | h5
    · rw [h5, dg_zero] at h4; exact absurd h4.symm h1
    · rw [dgs_pos h5, h4]
end Go.Proofs.Ytnnojeggjnddpaa

/- A tenth of a number of four words, and the rest. -/
namespace Go.Proofs.Ytnnojeggjnddpaa
open Go.RowKit
/-- The words from a place on, divided by ten; the rest that is left. -/
structure TnI (xs zs : List Int) (k : Nat) (r : Int) : Prop where
  len : zs.length = 4
  xlen : xs.length = 4
  same : ∀ j, j < k → zs[j]? = xs[j]?
  wds : Words zs
  r0 : 0 ≤ r
  r1 : r < 10
  eq : val64 (xs.drop k) = 10 * val64 (zs.drop k) + r
theorem tn_start {xs : List Int} (hl : xs.length = 4) (hx : Words xs) : TnI xs xs 4 0 :=
  ⟨hl, hl, fun _ _ => rfl, hx, by omega, by omega, by rw [← hl, List.drop_length]; rfl⟩
theorem tn_step {xs zs : List Int} {k : Nat} {r : Int} (h : TnI xs zs (k + 1) r) (hz : k < zs.length) (hk : k < xs.length) (he : zs[k] = xs[k]) (q s : Int) (hq : q = (r * 18446744073709551616 + zs[k]) / 10) (hs : s = (r * 18446744073709551616 + zs[k]) % 10) :
    TnI xs (zs.set k q) k s := by
  obtain ⟨h1, h2, h3, h4, h5, h6, h7⟩ := h
  have hw : Word zs[k] := h4 _ (List.getElem_mem hz)
  unfold Word at hw
  refine ⟨by simpa using h1, h2, fun j hj => ?_, words_set h4 k ⟨by omega, by omega⟩, by omega, by omega, ?_⟩
  · rw [List.getElem?_set_ne (by omega)]; exact h3 j (by omega)
  · rw [List.drop_eq_getElem_cons (show k < xs.length by omega), List.drop_eq_getElem_cons (show k < (zs.set k q).length by simpa using hz), List.getElem_set_self, List.drop_set_of_lt (by omega)]
    simp only [val64]
    rw [h7, ← he]
    omega
theorem tn_at {xs zs : List Int} {k : Nat} {r : Int} (h : TnI xs zs (k + 1) r) (hz : k < zs.length) (hk : k < xs.length) : zs[k] = xs[k] := by
  have := h.same k (by omega)
  rw [List.getElem?_eq_getElem hz, List.getElem?_eq_getElem hk] at this
  simpa using this
def TenP (v : Int) (w : World) (e : Ending) (w' : World) : Prop := ∃ zs : List Int, e = .returned (.tuple #[agg zs, .int .u64 (v % 10)]) ∧ zs.length = 4 ∧ Words zs ∧ val64 zs = v / 10 ∧ Below w.heap.size w w'
set_option maxRecDepth 100000 in
set_option maxHeartbeats 1000000 in
theorem tenthOf_any (xs : List Int) (hl : xs.length = 4) (hx : Words xs) (w : World) : Calls Try.prog 44 #[agg xs] w (TenP (val64 xs) w) := by
  have HI : Hid (TnI xs xs 4 0) := tn_start hl hx
  have HX : Hid (Words xs) := hx
  obtain ⟨x0, x1, x2, x3, hxs⟩ := list4 hl
  have HA : agg xs = .agg #[.int .u64 x0, .int .u64 x1, .int .u64 x2, .int .u64 x3] := by rw [hxs]; rfl
  rw [HA]
  have HL : Hid (xs.length = 4) := hl
  clear hl hx HA
  go_enter Try.func44, Try.ntmps44
  go_wp2
  have HS : Mk w ((w.alloc (.cells #[.int .u64 x0, .int .u64 x1, .int .u64 x2, .int .u64 x3] 70)).alloc (.cells #[.int .u64 0, .int .u64 0, .int .u64 0, .int .u64 0] 70)) (w.heap.size + 1) w.heap.size (List.replicate 4 (.int .u64 0)) xs :=
    ⟨((Below.refl _ _).alloc (Nat.le_refl _) _).alloc (by simp) _, Blk.new _ [.int .u64 0, .int .u64 0, .int .u64 0, .int .u64 0] _ (by simp), by rw [hxs]; exact (Blk.new w [.int .u64 x0, .int .u64 x1, .int .u64 x2, .int .u64 x3] _ rfl).alloc _⟩
  generalize ((w.alloc (.cells #[.int .u64 x0, .int .u64 x1, .int .u64 x2, .int .u64 x3] 70)).alloc (.cells #[.int .u64 0, .int .u64 0, .int .u64 0, .int .u64 0] 70)) = W at *
  clear hxs
  go_loopw [4, 5] (fun r i wr => ∃ (k : Nat) (zs : List Int) (s : Int), k ≤ 4 ∧ i = .int .i64 ((k : Int) - 1) ∧ r = .int .u64 s ∧ TnI xs zs k s ∧ Mk w wr (w.heap.size + 1) w.heap.size (List.replicate 4 (.int .u64 0)) zs) (fun _ i _ => (intOf i + 1).toNat)
  case atStart => exact ⟨4, _, 0, by omega, rfl, rfl, HI.out, HS⟩
  case round =>
    clear HI HS
    obtain ⟨k, zs, s, hk, rfl, rfl, hI, hM⟩ := hrel
    have hlen := hI.len
    by_cases hk0 : 0 < k
    · obtain ⟨m, rfl⟩ : ∃ m, k = m + 1 := ⟨k - 1, by omega⟩
      have hz : m < zs.length := by omega
      have hxm : m < xs.length := by have := HL.out; omega
      have he : Hid (zs[m] = xs[m]) := tn_at hI hz hxm
      obtain ⟨q1, q2⟩ := hM.cp m hz
      have hw : Word zs[m] := hI.wds _ (List.getElem_mem hz)
      have e1 : ((m + 1 : Nat) : Int) - 1 = m := by omega
      have hr0 := hI.r0
      have hr1 := hI.r1
      have HII : Hid (TnI xs zs (m + 1) s) := hI
      have HM : Hid (Mk w wr (w.heap.size + 1) w.heap.size (List.replicate 4 (.int .u64 0)) zs) := hM
      have hmI : (m : Int) < 4 := by omega
      have C := div64_any s zs[m] 10 ⟨by omega, by omega⟩ hw ⟨by omega, by omega⟩ (by omega)
      rw [e1]
      clear hI hM e1
      go_wp2_with fail
      refine (C _).mono ?_
      rintro e w1 ⟨rfl, hB⟩
      have M1 := HM.out.step hB
      obtain ⟨p1, p2⟩ := M1.cp m hz
      have R1 := tn_step HII.out hz hxm he.out _ _ rfl rfl
      have M2 : Hid (Mk w (w1.setCell ⟨w.heap.size, m, none⟩ (.int .u64 ((s * 18446744073709551616 + zs[m]) / 10))) (w.heap.size + 1) w.heap.size (List.replicate 4 (.int .u64 0)) (zs.set m ((s * 18446744073709551616 + zs[m]) / 10))) := M1.set (by omega) (Nat.le_refl _) m hz _
      clear q1 q2 C hB M1
      go_wp2
      go_roundw
      case rel => exact ⟨m, _, _, by omega, by go_num, rfl, R1, M2.out⟩
      case measure => simp [intOf]
    · obtain rfl : k = 0 := by omega
      have HV := hI.eq
      have HR0 := hI.r0
      have HR1 := hI.r1
      have HW := hI.wds
      obtain ⟨z0, z1, z2, z3, rfl⟩ := list4 hlen
      obtain ⟨c0, f0⟩ := hM.cp 0 (by simp)
      obtain ⟨c1, f1⟩ := hM.cp 1 (by simp)
      obtain ⟨c2, f2⟩ := hM.cp 2 (by simp)
      obtain ⟨c3, f3⟩ := hM.cp 3 (by simp)
      have d0 := hM.r.c 0 rfl; have e0 := hM.r.f 0 rfl
      have d1 := hM.r.c 1 rfl; have e1 := hM.r.f 1 rfl
      have d2 := hM.r.c 2 rfl; have e2 := hM.r.f 2 rfl
      have d3 := hM.r.c 3 rfl; have e3 := hM.r.f 3 rfl
      have HB := hM.below
      simp only [List.getElem_cons_zero, List.getElem_cons_succ] at c0 c1 c2 c3
      have HV2 : Hid (s = val64 xs % 10 ∧ val64 [z0, z1, z2, z3] = val64 xs / 10) := by
        simp only [List.drop_zero] at HV
        exact ⟨by omega, by omega⟩
      clear hI hM hlen HV HR0 HR1
      go_wp2
      refine bodyPost_ret (v := .tuple #[.agg #[.int .u64 z0, .int .u64 z1, .int .u64 z2, .int .u64 z3], .int .u64 s]) (by simp [results, Try.results44, go_sem, d0, d1, d2, d3]) rfl ?_
      refine ⟨[z0, z1, z2, z3], by rw [← HV2.out.1]; rfl, rfl, HW, HV2.out.2, ?_⟩
      repeat' (refine Below.setCell ?_ (by simp) _)
      exact HB
end Go.Proofs.Ytnnojeggjnddpaa

/- The program's text of a number. -/
namespace Go.Proofs.Ytnnojeggjnddpaa
open Go.RowKit
set_option maxRecDepth 100000 in
set_option maxHeartbeats 2000000 in
theorem eqWordsZ (x0 x1 x2 x3 : Int) (w : World) : (Op.equalIn 10000 70 (.agg #[.int .u64 x0, .int .u64 x1, .int .u64 x2, .int .u64 x3]) (.agg #[.int .u64 0, .int .u64 0, .int .u64 0, .int .u64 0])).run Try.prog w = .ok (x0 == 0 && x1 == 0 && x2 == 0 && x3 == 0) w := by
  have u3 := Try.underlying22
  have a3 := Try.isAgg22
  have z3 := Try.sizeOf22
  rw [show (10000 : Nat) = 9999 + 1 from rfl, Op.equalIn]
  simp only [Sem.run_bind, run_underlying Try.underlying70, Result.andThen_ok]
  simp only [Std.Legacy.Range.forIn_eq_forIn_range', Std.Legacy.Range.size, Nat.sub_zero, Nat.add_sub_cancel, Nat.div_one, List.range'_succ, List.range'_zero, List.forIn_cons, List.forIn_nil]
  go_simp
  by_cases h0 : x0 = 0
  · subst h0
    by_cases h1 : x1 = 0
    · subst h1
      by_cases h2 : x2 = 0
      · subst h2
        by_cases h3 : x3 = 0
        · subst h3
          simp
        · simp [h3]
      · simp [h2]
    · simp [h1]
  · simp [h0]
theorem zeroW4 {x0 x1 x2 x3 : Int} (h : Words [x0, x1, x2, x3]) : (x0 == 0 && x1 == 0 && x2 == 0 && x3 == 0) = decide (val64 [x0, x1, x2, x3] = 0) := by
  obtain ⟨h0, h1, h2, h3⟩ := words4_of h
  unfold Word at *
  rw [Bool.eq_iff_iff, decide_eq_true_iff]
  simp only [Bool.and_eq_true, beq_iff_eq, val64]
  omega
/-- Bytes as they lie in a row. -/
def byV (l : List Nat) : List Value := l.map fun (n : Nat) => Value.int .u8 (n : Int)
theorem byV_set (k : Nat) (ts : List Nat) (b : Nat) : (byV (List.replicate (k + 1) 0 ++ ts)).set k (.int .u8 (b : Int)) = byV (List.replicate k 0 ++ b :: ts) := by
  unfold byV
  rw [show Value.int .u8 (b : Int) = (fun (n : Nat) => Value.int .u8 (n : Int)) b from rfl, ← List.map_set]
  congr 1
  rw [List.replicate_succ', List.append_assoc, List.set_append_right _ _ (by simp)]
  simp
theorem byV_len (l : List Nat) : (byV l).length = l.length := by simp [byV]
/-- What lies in memory while a text is written from its end on. -/
structure WtI (w wr : World) (g : Nat) (n : Nat) (a : List Value) (k : Nat) (zs : List Int) (d : Nat) (ts : List Nat) : Prop where
  below : Below w.heap.size w wr
  ba : Blk wr w.heap.size a
  bt : Blk wr (w.heap.size + 1) (byV (List.replicate k 0 ++ ts))
  bs : Blk wr g (zs.map (Value.int .u64))
  zl : zs.length = 4
  zw : Words zs
  gl : w.heap.size + 1 < g
  len : k + ts.length = 78
  d10 : d < 10
  eq : dgs n = dg (val64 zs).toNat ++ (48 + d) :: ts
theorem WtI.fit {w wr : World} {g n : Nat} {a : List Value} {k : Nat} {zs : List Int} {d : Nat} {ts : List Nat} (h : WtI w wr g n a k zs d ts) (hn : n < 10 ^ 77) : 2 ≤ k := by
  have h1 := dgs_len (k := 77) (by omega) hn
  rw [h.eq] at h1
  have := h.len
  simp at h1
  omega
theorem WtI.next {w wr w1 : World} {g n : Nat} {a : List Value} {k : Nat} {zs ys : List Int} {d e : Nat} {ts : List Nat} (h : WtI w wr g n a (k + 1) zs d ts) (hv : 0 < val64 zs) (hB : Below (wr.setCell ⟨w.heap.size + 1, k, none⟩ (.int .u8 (48 + (d : Int)))).heap.size (wr.setCell ⟨w.heap.size + 1, k, none⟩ (.int .u8 (48 + (d : Int)))) w1) {y0 y1 y2 y3 : Int} (hy : ys = [y0, y1, y2, y3]) (yw : Words ys) (yv : val64 ys = val64 zs / 10) (he : (e : Int) = val64 zs % 10) :
    WtI w ((((w1.setCell ⟨g, 0, none⟩ (.int .u64 y0)).setCell ⟨g, 1, none⟩ (.int .u64 y1)).setCell ⟨g, 2, none⟩ (.int .u64 y2)).setCell ⟨g, 3, none⟩ (.int .u64 y3)) g n a k ys e ((48 + d) :: ts) := by
  have hgl := h.gl
  have hsz := h.below.size
  have hg : w.heap.size ≤ g := by omega
  have B1 := (h.below.setCell (p := ⟨w.heap.size + 1, k, none⟩) (by show w.heap.size ≤ w.heap.size + 1; omega) (.int .u8 (48 + (d : Int))))
  have B2 := B1.trans (hB.mono B1.size)
  have BA := (h.ba.setO (p := ⟨w.heap.size + 1, k, none⟩) (by show w.heap.size ≠ w.heap.size + 1; omega) (.int .u8 (48 + (d : Int)))).step hB
  have BT0 := h.bt.setI k (by rw [byV_len]; simp; omega) (.int .u8 (48 + (d : Int)))
  rw [show 48 + (d : Int) = ((48 + d : Nat) : Int) by omega, byV_set, ← show 48 + (d : Int) = ((48 + d : Nat) : Int) by omega] at BT0
  have BT := BT0.step hB
  have BS := (h.bs.setO (p := ⟨w.heap.size + 1, k, none⟩) (by show g ≠ w.heap.size + 1; omega) (.int .u8 (48 + (d : Int)))).step hB
  obtain ⟨z0, z1, z2, z3, hz⟩ := list4 h.zl
  rw [hz] at BS
  refine ⟨(((B2.setCell (p := ⟨g, 0, none⟩) hg _).setCell (p := ⟨g, 1, none⟩) hg _).setCell (p := ⟨g, 2, none⟩) hg _).setCell (p := ⟨g, 3, none⟩) hg _, BA.set4 (by omega), BT.set4 (by omega), ?_, by rw [hy]; rfl, yw, hgl, by have := h.len; simp; omega, by omega, ?_⟩
  · rw [hy]
    exact Blk.stored4g BS _ _ _ _
  · rw [h.eq, dg_step (n := (val64 zs).toNat) (by omega), yv]
    rw [show (val64 zs).toNat / 10 = (val64 zs / 10).toNat by omega, show (val64 zs).toNat % 10 = e by omega, List.append_assoc]
    rfl
theorem arr78 : Try.prog.arrayLen 68 = 78 := by kernel_rfl
theorem und78 : Try.prog.underlying 68 = some (.array (Try.prog.arrayLen 68) (Try.prog.elem 68)) := by kernel_rfl
theorem siz78 (w : World) : (sizeOf (Try.prog.elem 68)).run Try.prog w = .ok 1 w := by kernel_rfl
theorem slice78_l (g l : Nat) (hl : l < 78) (i : Int) (hi : i = l) (w : World) : (Instr.sliceAt 68 (.pointer (some ⟨g, 0, none⟩)) (some (.int .i64 i)) none none).run Try.prog w = .ok (.slice (some ⟨g, l, none⟩) (78 - l) (78 - l)) w := by
  subst hi
  rw [run_sliceAt_array_l w _ _ und78 _ _ (by omega) (by rw [arr78]; omega), siz78, arr78]
  simp only [Result.andThen, slicedAt, Addr.add, Int.toNat_natCast, Nat.mul_one, Nat.zero_add]
  rw [if_neg (by omega)]
  split
  · next h0 => rw [h0]
  · rfl
theorem text_out {W : World} {g k : Nat} {l : List Nat} (h : Blk W g (byV (List.replicate k 0 ++ l))) (hk : k + l.length = 78) : (convert 53 9 (.slice (some ⟨g, k, none⟩) (78 - k) (78 - k))).run Try.prog W = .ok (.string (strL l)) W :=
  run_convert_bytes_arg (P := Try.prog) W 53 5 Try.underlying53 Try.underlying5 g k (78 - k) (78 - k) (l.map fun (n : Nat) => (n : Int)) (by simp; omega) (fun i hi => by
    refine h.c (k + i) ?_
    have hi2 : i < l.length := by omega
    unfold byV
    rw [List.getElem?_map, List.getElem?_append_right (by simp), List.length_replicate, Nat.add_sub_cancel_left, List.getElem?_eq_getElem hi2]
    simp [List.getD_eq_getElem?_getD, hi2]) 9 Try.underlying9
theorem zero78 : Try.zeroCells68 = (byV (List.replicate 78 0 ++ [])).toArray := by kernel_rfl
set_option maxRecDepth 100000 in
set_option maxHeartbeats 2000000 in
theorem implText_any (a3 a2 a1 a0 : Int) (h3 : Word a3) (h2 : Word a2) (h1 : Word a1) (h0 : Word a0) (w : World) : Calls Try.prog 14 #[.agg #[.int .u64 a3, .int .u64 a2, .int .u64 a1, .int .u64 a0]] w (VP (.string (txS (sw a3 a2 a1 a0))) w) := by
  have CS := sizeOf_any a3 a2 a1 a0 h3 h2 h1 h0
  have hsb := sw_bound h3 h2 h1 h0
  have hsn := sw_neg h3 h2 h1 h0
  have h3H : Hid (Word a3) := h3
  have HB0 : Hid (Below w.heap.size w ((w.alloc (Obj.cells #[.int .u64 a3, .int .u64 a2, .int .u64 a1, .int .u64 a0] 26)).alloc (Obj.cells Try.zeroCells68 68))) := ((Below.refl _ _).alloc (Nat.le_refl _) _).alloc (by simp) _
  have BA0 : Hid (Blk ((w.alloc (Obj.cells #[.int .u64 a3, .int .u64 a2, .int .u64 a1, .int .u64 a0] 26)).alloc (Obj.cells Try.zeroCells68 68)) w.heap.size [.int .u64 a3, .int .u64 a2, .int .u64 a1, .int .u64 a0]) := (Blk.new w [.int .u64 a3, .int .u64 a2, .int .u64 a1, .int .u64 a0] _ rfl).alloc _
  have BT0 : Hid (Blk ((w.alloc (Obj.cells #[.int .u64 a3, .int .u64 a2, .int .u64 a1, .int .u64 a0] 26)).alloc (Obj.cells Try.zeroCells68 68)) (w.heap.size + 1) (byV (List.replicate 78 0 ++ []))) := by
    show Blk _ _ _
    rw [zero78]
    exact Blk.new _ _ _ (by simp)
  generalize hz : sw a3 a2 a1 a0 = z at *
  have HZ : Hid (sw a3 a2 a1 a0 = z) := hz
  clear hz h3 h2 h1 h0
  go_enter Try.func14, Try.ntmps14
  go_wp2_with fail
  generalize ((w.alloc (Obj.cells #[.int .u64 a3, .int .u64 a2, .int .u64 a1, .int .u64 a0] 26)).alloc (Obj.cells Try.zeroCells68 68)) = W0 at *
  refine (CS _).mono ?_
  rintro e w1 ⟨x3, x2, x1, x0, rfl, g3, g2, g1, g0, hu, hB⟩
  have BA1 := BA0.out.step hB
  have BT1 := BT0.out.step hB
  have HB1 := HB0.out.trans (hB.mono HB0.out.size)
  clear BA0 BT0 HB0 hB CS
  obtain ⟨n, hn⟩ : ∃ n, n = z.natAbs := ⟨_, rfl⟩
  have hn77 : Hid (n < 10 ^ 77) := by
    show _ < _
    omega
  rw [← hn] at hu
  have HN : Hid (n = z.natAbs) := hn
  clear hn
  have CT := tenthOf_any [x0, x1, x2, x3] rfl (words4 g0 g1 g2 g3)
  rw [val64_4, hu] at CT
  go_wp2_with fail
  refine (CT _).mono ?_
  rintro e w2 ⟨zs, rfl, zl, zw, zv, hB⟩
  have BA2 := BA1.step hB
  have BT2 := BT1.step hB
  have HB2 := HB1.trans (hB.mono HB1.size)
  clear BA1 BT1 HB1 hB CT
  have e1 : ((n : Int) % 10) = ((n % 10 : Nat) : Int) := by omega
  rw [e1]
  have HI0 : Hid (dgs n = dg (val64 zs).toNat ++ (48 + n % 10) :: []) := by
    show _ = _
    rw [zv, show ((n : Int) / 10).toNat = n / 10 by omega]; rfl
  have hd : n % 10 < 10 := by omega
  generalize n % 10 = d at *
  clear e1 hu zv
  obtain ⟨z0, z1, z2, z3, rfl⟩ := list4 zl
  simp only [agg, List.map_cons, List.map_nil]
  have HW2 := HB2.size
  have HI1 : Hid (WtI w (w2.alloc (Obj.cells #[.int .u64 z0, .int .u64 z1, .int .u64 z2, .int .u64 z3] 70)) w2.heap.size n [.int .u64 a3, .int .u64 a2, .int .u64 a1, .int .u64 a0] 78 [z0, z1, z2, z3] d []) :=
    ⟨HB2.alloc HW2 _, BA2.alloc _, BT2.alloc _, Blk.new _ [.int .u64 z0, .int .u64 z1, .int .u64 z2, .int .u64 z3] _ rfl, rfl, zw, BT2.lt, rfl, hd, HI0.out⟩
  clear BA2 BT2 HB2 HI0
  go_wp2
  generalize (w2.alloc (Obj.cells #[.int .u64 z0, .int .u64 z1, .int .u64 z2, .int .u64 z3] 70)) = W2 at *
  generalize w2.heap.size = g at *
  go_loopw [4, 6] (fun at' dv wr => ∃ (k : Nat) (zs : List Int) (e : Nat) (ts : List Nat), at' = .int .i64 k ∧ dv = .int .u64 e ∧ WtI w wr g n [.int .u64 a3, .int .u64 a2, .int .u64 a1, .int .u64 a0] k zs e ts) (fun at' _ _ => (intOf at').toNat)
  case atStart => exact ⟨78, _, d, [], rfl, rfl, HI1.out⟩
  case round =>
    clear HI1 hd zw zl
    obtain ⟨k, zs, e, ts, rfl, rfl, hI⟩ := hrel
    have hk2 := hI.fit hn77.out
    have zl := hI.zl
    have zw := hI.zw
    have hgl := hI.gl
    have hlen := hI.len
    have hd := hI.d10
    obtain ⟨y0, y1, y2, y3, hy⟩ := list4 zl
    have EZ := eqWordsZ y0 y1 y2 y3
    rw [zeroW4 (by rw [← hy]; exact zw), ← hy] at EZ
    have BS := hI.bs
    rw [hy] at BS
    obtain ⟨c0, f0, c1, f1, c2, f2, c3, f3⟩ := BS.cf4
    obtain ⟨j, rfl⟩ : ∃ j, k = j + 1 := ⟨k - 1, by omega⟩
    have bt1 := hI.bt.c j (v := .int .u8 0) (by unfold byV; rw [List.getElem?_map, List.getElem?_append_left (by simp), List.getElem?_replicate_of_lt (by omega)]; rfl)
    have bt2 := hI.bt.f j (v := .int .u8 0) (by unfold byV; rw [List.getElem?_map, List.getElem?_append_left (by simp), List.getElem?_replicate_of_lt (by omega)]; rfl)
    obtain ⟨q0, q1, q2, q3⟩ := hI.ba.cs4
    have HY : Hid (zs = [y0, y1, y2, y3]) := hy
    have HII : Hid (WtI w wr g n [.int .u64 a3, .int .u64 a2, .int .u64 a1, .int .u64 a0] (j + 1) zs e ts) := hI
    have hv0 := val64_nonneg zw
    clear hI hy
    have ej : ((j + 1 : Nat) : Int) - 1 = j := by omega
    have hj78 : (j : Int) < 78 := by omega
    have eb : IntKind.u8.wrap (48 + IntKind.u8.wrap (e : Int)) = ((48 + e : Nat) : Int) := by
      rw [IntKind.wrap_u8, IntKind.wrap_u8]
      omega
    by_cases hz : val64 zs = 0
    · rw [hz] at EZ
      simp only [decide_true] at EZ
      have hL : Hid (dgs n = (48 + e) :: ts) := by
        have := HII.out.eq
        rw [hz, show (0 : Int).toNat = 0 from rfl, dg_zero] at this
        exact this
      have BT1 : Hid (Blk (wr.setCell ⟨w.heap.size + 1, j, none⟩ (.int .u8 (48 + (e : Int)))) (w.heap.size + 1) (byV (List.replicate j 0 ++ (48 + e) :: ts))) := by
        have := HII.out.bt.setI j (by rw [byV_len]; simp; omega) (.int .u8 ((48 + e : Nat) : Int))
        rw [byV_set] at this
        rw [show 48 + (e : Int) = ((48 + e : Nat) : Int) by omega]
        exact this
      have HB1 : Hid (Below w.heap.size w (wr.setCell ⟨w.heap.size + 1, j, none⟩ (.int .u8 (48 + (e : Int))))) := HII.out.below.setCell (by show w.heap.size ≤ w.heap.size + 1; omega) _
      rw [← hL.out] at BT1
      have hdl : Hid (j + (dgs n).length = 78) := by show _ = _; rw [hL.out]; simp; omega
      clear HII hL
      by_cases hz0 : z < 0
      · have CB := isBelow_any a3 a2 a1 a0 h3H.out true (beq_iff_eq.2 (by have := h3H.out; unfold Word at this; omega))
        have hT : Hid (txS z = strL (45 :: dgs n)) := by show _ = _; unfold txS txL; rw [if_pos hz0, ← HN.out]; rfl
        clear hz0 hsn hsb
        go_wp2_with fail
        generalize (wr.setCell ⟨w.heap.size + 1, j, none⟩ (.int .u8 (48 + (e : Int)))) = W3 at *
        refine (CB _).mono ?_
        rintro e w4 ⟨rfl, hB⟩
        have BT2 := BT1.out.step hB
        have HB2 := HB1.out.trans (hB.mono HB1.out.size)
        clear CB BT1 HB1 hB q0 q1 q2 q3 c0 c1 c2 c3 f0 f1 f2 f3 bt1 bt2
        obtain ⟨i, rfl⟩ : ∃ i, j = i + 1 := ⟨j - 1, by omega⟩
        have bt1 := BT2.c i (v := .int .u8 0) (by unfold byV; rw [List.getElem?_map, List.getElem?_append_left (by simp), List.getElem?_replicate_of_lt (by omega)]; rfl)
        have bt2 := BT2.f i (v := .int .u8 0) (by unfold byV; rw [List.getElem?_map, List.getElem?_append_left (by simp), List.getElem?_replicate_of_lt (by omega)]; rfl)
        have ei : ((i + 1 : Nat) : Int) - 1 = i := by omega
        have hi78 : (i : Int) < 78 := by omega
        have BT3 : Blk (w4.setCell ⟨w.heap.size + 1, i, none⟩ (.int .u8 45)) (w.heap.size + 1) (byV (List.replicate i 0 ++ 45 :: dgs n)) := by
          have := BT2.setI i (by rw [byV_len]; simp; omega) (.int .u8 ((45 : Nat) : Int))
          rw [byV_set] at this
          exact this
        have CV := text_out BT3 (by have := hdl.out; simp; omega)
        have SL := slice78_l (w.heap.size + 1) i (by omega) i rfl
        have HB3 : Hid (Below w.heap.size w (w4.setCell ⟨w.heap.size + 1, i, none⟩ (.int .u8 45))) := HB2.setCell (by show w.heap.size ≤ w.heap.size + 1; omega) _
        clear BT2 BT3 HB2
        go_wp2
        go_ret
        exact ⟨by rw [hT.out]; rfl, HB3.out⟩
      · have CB := isBelow_any a3 a2 a1 a0 h3H.out false (beq_eq_false_iff_ne.2 (by have := h3H.out; unfold Word at this; omega))
        have hT : Hid (txS z = strL (dgs n)) := by show _ = _; unfold txS txL; rw [if_neg hz0, ← HN.out]; rfl
        clear hz0 hsn hsb
        go_wp2_with fail
        generalize (wr.setCell ⟨w.heap.size + 1, j, none⟩ (.int .u8 (48 + (e : Int)))) = W3 at *
        refine (CB _).mono ?_
        rintro e w4 ⟨rfl, hB⟩
        have BT2 := BT1.out.step hB
        have HB2 := HB1.out.trans (hB.mono HB1.out.size)
        clear CB BT1 HB1 hB q0 q1 q2 q3 c0 c1 c2 c3 f0 f1 f2 f3 bt1 bt2
        have CV := text_out BT2 hdl.out
        have SL := slice78_l (w.heap.size + 1) j (by omega) j rfl
        clear BT2
        go_wp2
        go_ret
        exact ⟨by rw [hT.out]; rfl, HB2⟩
    · simp only [hz, decide_false] at EZ
      have CT := tenthOf_any zs zl zw
      rw [HY.out] at CT
      rw [← HY.out] at CT
      have hv1 : 0 < val64 zs := by omega
      have ee : Hid (val64 zs % 10 = ((val64 zs % 10).toNat : Int)) := by show _ = _; omega
      have CT2 : ∀ w, Calls Try.prog 44 #[.agg #[.int .u64 y0, .int .u64 y1, .int .u64 y2, .int .u64 y3]] w (TenP (val64 zs) w) := by
        have := CT
        rw [show agg zs = .agg #[.int .u64 y0, .int .u64 y1, .int .u64 y2, .int .u64 y3] by rw [HY.out]; rfl] at this
        exact this
      clear CT
      go_wp2_with fail
      refine (CT2 _).mono ?_
      rintro e2 w4 ⟨xs, rfl, xl, xw, xv, hB⟩
      rw [ee.out]
      obtain ⟨m, hm⟩ : ∃ m, m = (val64 zs % 10).toNat := ⟨_, rfl⟩
      obtain ⟨s0, s1, s2, s3, hs⟩ := list4 xl
      have N1 := HII.out.next hv1 hB hs xw xv (by rw [← hm] at ee; exact ee.out.symm)
      have m1 := HII.out.bs.setO (p := ⟨w.heap.size + 1, j, none⟩) (by show g ≠ w.heap.size + 1; omega) (.int .u8 (48 + (e : Int)))
      have m2 := m1.step hB
      rw [HY.out] at m2
      obtain ⟨k0, l0, k1, l1, k2, l2, k3, l3⟩ := m2.cf4
      rw [← hm]
      have NN : Hid (WtI w ((((w4.setCell ⟨g, 0, none⟩ (.int .u64 s0)).setCell ⟨g, 1, none⟩ (.int .u64 s1)).setCell ⟨g, 2, none⟩ (.int .u64 s2)).setCell ⟨g, 3, none⟩ (.int .u64 s3)) g n [.int .u64 a3, .int .u64 a2, .int .u64 a1, .int .u64 a0] j xs m ((48 + e) :: ts)) := N1
      have SA : agg xs = .agg #[.int .u64 s0, .int .u64 s1, .int .u64 s2, .int .u64 s3] := by rw [hs]; rfl
      rw [SA]
      clear HII N1 hB m1 m2 hs SA EZ CT2 q0 q1 q2 q3 c0 c1 c2 c3 f0 f1 f2 f3 bt1 bt2 hm ee
      go_wp2
      go_roundw
      case rel => exact ⟨j, _, m, _, by go_num, rfl, NN.out⟩
      case measure => simp [intOf]
end Go.Proofs.Ytnnojeggjnddpaa
