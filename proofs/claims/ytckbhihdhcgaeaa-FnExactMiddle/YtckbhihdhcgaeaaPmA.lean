/- A point of three numbers: the model's walk. -/
import Derived.Test.YtckbhihdhcgaeaaMk3
import Derived.Test.YtckbhihdhcgaeaaBas11
import Derived.Test.YtckbhihdhcgaeaaBas12
namespace Go.Proofs.Ytckbhihdhcgaeaa
open Go.RowKit
/-- The point of three numbers in lowest terms, and true; zeros and false where there is none. -/
def ptV (x y z : Int) : Value := if small x && small y && small z then .tuple #[PV x y z, .bool true] else .tuple #[.agg #[.int .u64 0, .int .u64 0, .int .u64 0, .int .u64 0, .int .u64 0, .int .u64 0, .int .u64 0, .int .u64 0, .int .u64 0, .int .u64 0, .int .u64 0, .int .u64 0], .bool false]
def pmV (x y z : Int) : Value := if z = 0 then .tuple #[.agg #[.int .u64 0, .int .u64 0, .int .u64 0, .int .u64 0, .int .u64 0, .int .u64 0, .int .u64 0, .int .u64 0, .int .u64 0, .int .u64 0, .int .u64 0, .int .u64 0], .bool false] else ptV (shareZ x (Int.gcd (Int.gcd x y : Int) z : Int) (decide (z < 0))) (shareZ y (Int.gcd (Int.gcd x y : Int) z : Int) (decide (z < 0))) (shareZ z (Int.gcd (Int.gcd x y : Int) z : Int) (decide (z < 0)))
theorem ptV_ex (x y z : Int) : ∃ r0 r1 r2 r3 r4 r5 r6 r7 r8 r9 r10 r11 t, ptV x y z = .tuple #[.agg #[.int .u64 r0, .int .u64 r1, .int .u64 r2, .int .u64 r3, .int .u64 r4, .int .u64 r5, .int .u64 r6, .int .u64 r7, .int .u64 r8, .int .u64 r9, .int .u64 r10, .int .u64 r11], .bool t] := by
  unfold ptV
  split
  · exact ⟨_, _, _, _, _, _, _, _, _, _, _, _, true, rfl⟩
  · exact ⟨0, 0, 0, 0, 0, 0, 0, 0, 0, 0, 0, 0, false, rfl⟩
theorem pmV_ex (x y z : Int) : ∃ r0 r1 r2 r3 r4 r5 r6 r7 r8 r9 r10 r11 t, pmV x y z = .tuple #[.agg #[.int .u64 r0, .int .u64 r1, .int .u64 r2, .int .u64 r3, .int .u64 r4, .int .u64 r5, .int .u64 r6, .int .u64 r7, .int .u64 r8, .int .u64 r9, .int .u64 r10, .int .u64 r11], .bool t] := by
  unfold pmV
  split
  · exact ⟨0, 0, 0, 0, 0, 0, 0, 0, 0, 0, 0, 0, false, rfl⟩
  · exact ptV_ex _ _ _
set_option maxRecDepth 100000 in
set_option maxHeartbeats 2000000 in
theorem l3Point_any (ps1 : Bool) (po1 : Option Addr) (pn1 pc1 : Nat) (pd1 : List Int) (ps2 : Bool) (po2 : Option Addr) (pn2 pc2 : Nat) (pd2 : List Int) (ps3 : Bool) (po3 : Option Addr) (pn3 pc3 : Nat) (pd3 : List Int) (x y z : Int) (k : Nat) (hk : k ≤ 100000) (w : World) (N1 : IsNum w ps1 po1 pn1 pc1 pd1 x k) (N2 : IsNum w ps2 po2 pn2 pc2 pd2 y k) (N3 : IsNum w ps3 po3 pn3 pc3 pd3 z k) :
    Calls Try.prog 64 #[.agg #[.bool ps1, .slice po1 pn1 pc1, .bool ps2, .slice po2 pn2 pc2, .bool ps3, .slice po3 pn3 pc3]] w (VP (ptV x y z) w) := by
  by_cases hs : small x = true ∧ small y = true ∧ small z = true
  · obtain ⟨h1, h2, h3⟩ := hs
    have := l3Point_small ps1 po1 pn1 pc1 pd1 ps2 po2 pn2 pc2 pd2 ps3 po3 pn3 pc3 pd3 x y z k hk h1 h2 h3 w N1 N2 N3
    unfold ptV
    rw [h1, h2, h3]
    exact this
  · have hv : (small x && small y && small z) = false := by
      rw [Bool.eq_false_iff]
      intro h
      simp at h
      exact hs ⟨h.1.1, h.1.2, h.2⟩
    have HO : Hid (ptV x y z = .tuple #[.agg #[.int .u64 0, .int .u64 0, .int .u64 0, .int .u64 0, .int .u64 0, .int .u64 0, .int .u64 0, .int .u64 0, .int .u64 0, .int .u64 0, .int .u64 0, .int .u64 0], .bool false]) := by show _ = _; unfold ptV; rw [hv]; rfl
    have T0 : ArgsB w ((w.alloc (.cells #[.bool ps1, .slice po1 pn1 pc1, .bool ps2, .slice po2 pn2 pc2, .bool ps3, .slice po3 pn3 pc3] 84)).alloc (.cells #[.int .u64 0, .int .u64 0, .int .u64 0, .int .u64 0, .int .u64 0, .int .u64 0, .int .u64 0, .int .u64 0, .int .u64 0, .int .u64 0, .int .u64 0, .int .u64 0] 30)) [[.bool ps1, .slice po1 pn1 pc1, .bool ps2, .slice po2 pn2 pc2, .bool ps3, .slice po3 pn3 pc3], [.int .u64 0, .int .u64 0, .int .u64 0, .int .u64 0, .int .u64 0, .int .u64 0, .int .u64 0, .int .u64 0, .int .u64 0, .int .u64 0, .int .u64 0, .int .u64 0]] := ar2 _ _ _ _ w
    replace N1 := N1.below T0.below
    replace N2 := N2.below T0.below
    replace N3 := N3.below T0.below
    go_enter Try.func64, Try.ntmps64
    go_wp2_with fail
    refine (l3Small_any ps1 po1 pn1 pc1 pd1 ps2 po2 pn2 pc2 pd2 ps3 po3 pn3 pc3 pd3 x y z k hk _ N1 N2 N3).mono ?_
    rintro e w0 ⟨rfl, hB⟩
    rw [hv]
    replace T0 := T0.step hB
    have o0 := (T0.b 1 rfl).c 0 rfl; have u0 := (T0.b 1 rfl).f 0 rfl; have o1 := (T0.b 1 rfl).c 1 rfl; have u1 := (T0.b 1 rfl).f 1 rfl; have o2 := (T0.b 1 rfl).c 2 rfl; have u2 := (T0.b 1 rfl).f 2 rfl; have o3 := (T0.b 1 rfl).c 3 rfl; have u3 := (T0.b 1 rfl).f 3 rfl; have o4 := (T0.b 1 rfl).c 4 rfl; have u4 := (T0.b 1 rfl).f 4 rfl; have o5 := (T0.b 1 rfl).c 5 rfl; have u5 := (T0.b 1 rfl).f 5 rfl; have o6 := (T0.b 1 rfl).c 6 rfl; have u6 := (T0.b 1 rfl).f 6 rfl; have o7 := (T0.b 1 rfl).c 7 rfl; have u7 := (T0.b 1 rfl).f 7 rfl; have o8 := (T0.b 1 rfl).c 8 rfl; have u8 := (T0.b 1 rfl).f 8 rfl; have o9 := (T0.b 1 rfl).c 9 rfl; have u9 := (T0.b 1 rfl).f 9 rfl; have o10 := (T0.b 1 rfl).c 10 rfl; have u10 := (T0.b 1 rfl).f 10 rfl; have o11 := (T0.b 1 rfl).c 11 rfl; have u11 := (T0.b 1 rfl).f 11 rfl; have olt := (T0.b 1 rfl).lt
    have HB := T0.below
    clear T0 hB hs hv N1 N2 N3
    go_wp2
    refine bodyPost_ret (v := .tuple #[.agg #[.int .u64 0, .int .u64 0, .int .u64 0, .int .u64 0, .int .u64 0, .int .u64 0, .int .u64 0, .int .u64 0, .int .u64 0, .int .u64 0, .int .u64 0, .int .u64 0], .bool false]) (by simp [results, Try.results64, go_sem, o0, o1, o2, o3, o4, o5, o6, o7, o8, o9, o10, o11]) rfl ?_
    refine ⟨by rw [HO.out], ?_⟩
    repeat' (refine Below.setCell ?_ (by simp; try omega) _)
    exact HB
theorem fromW_det (z : Int) (hz : told z = true) (w : World) : Calls Try.prog 66 #[W4 z] w (NumP 8 z w) := by
  obtain ⟨a3, a2, a1, a0⟩ := ww_words z
  have h := from_any (ww3 z) (ww2 z) (ww1 z) (ww0 z) a3 a2 a1 a0 w
  rw [ww_sw hz] at h
  exact h
theorem pm_cells {x y z : Int} {w W : World} (T0 : ArgsB w W [[.int .u64 (ww3 x), .int .u64 (ww2 x), .int .u64 (ww1 x), .int .u64 (ww0 x)], [.int .u64 (ww3 y), .int .u64 (ww2 y), .int .u64 (ww1 y), .int .u64 (ww0 y)], [.int .u64 (ww3 z), .int .u64 (ww2 z), .int .u64 (ww1 z), .int .u64 (ww0 z)], [.int .u64 0, .int .u64 0, .int .u64 0, .int .u64 0, .int .u64 0, .int .u64 0, .int .u64 0, .int .u64 0, .int .u64 0, .int .u64 0, .int .u64 0, .int .u64 0]]) : (fun w' => w'.cell? ⟨w.heap.size, 0, none⟩ = some (.int .u64 (ww3 x)) ∧ w'.cell? ⟨w.heap.size, 1, none⟩ = some (.int .u64 (ww2 x)) ∧ w'.cell? ⟨w.heap.size, 2, none⟩ = some (.int .u64 (ww1 x)) ∧ w'.cell? ⟨w.heap.size, 3, none⟩ = some (.int .u64 (ww0 x)) ∧ w'.cell? ⟨w.heap.size + 1, 0, none⟩ = some (.int .u64 (ww3 y)) ∧ w'.cell? ⟨w.heap.size + 1, 1, none⟩ = some (.int .u64 (ww2 y)) ∧ w'.cell? ⟨w.heap.size + 1, 2, none⟩ = some (.int .u64 (ww1 y)) ∧ w'.cell? ⟨w.heap.size + 1, 3, none⟩ = some (.int .u64 (ww0 y)) ∧ w'.cell? ⟨w.heap.size + 2, 0, none⟩ = some (.int .u64 (ww3 z)) ∧ w'.cell? ⟨w.heap.size + 2, 1, none⟩ = some (.int .u64 (ww2 z)) ∧ w'.cell? ⟨w.heap.size + 2, 2, none⟩ = some (.int .u64 (ww1 z)) ∧ w'.cell? ⟨w.heap.size + 2, 3, none⟩ = some (.int .u64 (ww0 z))) W := ⟨(T0.b 0 rfl).c 0 rfl, (T0.b 0 rfl).c 1 rfl, (T0.b 0 rfl).c 2 rfl, (T0.b 0 rfl).c 3 rfl, (T0.b 1 rfl).c 0 rfl, (T0.b 1 rfl).c 1 rfl, (T0.b 1 rfl).c 2 rfl, (T0.b 1 rfl).c 3 rfl, (T0.b 2 rfl).c 0 rfl, (T0.b 2 rfl).c 1 rfl, (T0.b 2 rfl).c 2 rfl, (T0.b 2 rfl).c 3 rfl⟩
theorem pm_cells12 {x y z : Int} {w W : World} {v0 v1 v2 v3 v4 v5 v6 v7 v8 v9 v10 v11 : Value} (T0 : ArgsB w W [[.int .u64 (ww3 x), .int .u64 (ww2 x), .int .u64 (ww1 x), .int .u64 (ww0 x)], [.int .u64 (ww3 y), .int .u64 (ww2 y), .int .u64 (ww1 y), .int .u64 (ww0 y)], [.int .u64 (ww3 z), .int .u64 (ww2 z), .int .u64 (ww1 z), .int .u64 (ww0 z)], [.int .u64 0, .int .u64 0, .int .u64 0, .int .u64 0, .int .u64 0, .int .u64 0, .int .u64 0, .int .u64 0, .int .u64 0, .int .u64 0, .int .u64 0, .int .u64 0]]) : (fun w' => w'.cell? ⟨w.heap.size, 0, none⟩ = some (.int .u64 (ww3 x)) ∧ w'.cell? ⟨w.heap.size, 1, none⟩ = some (.int .u64 (ww2 x)) ∧ w'.cell? ⟨w.heap.size, 2, none⟩ = some (.int .u64 (ww1 x)) ∧ w'.cell? ⟨w.heap.size, 3, none⟩ = some (.int .u64 (ww0 x)) ∧ w'.cell? ⟨w.heap.size + 1, 0, none⟩ = some (.int .u64 (ww3 y)) ∧ w'.cell? ⟨w.heap.size + 1, 1, none⟩ = some (.int .u64 (ww2 y)) ∧ w'.cell? ⟨w.heap.size + 1, 2, none⟩ = some (.int .u64 (ww1 y)) ∧ w'.cell? ⟨w.heap.size + 1, 3, none⟩ = some (.int .u64 (ww0 y)) ∧ w'.cell? ⟨w.heap.size + 2, 0, none⟩ = some (.int .u64 (ww3 z)) ∧ w'.cell? ⟨w.heap.size + 2, 1, none⟩ = some (.int .u64 (ww2 z)) ∧ w'.cell? ⟨w.heap.size + 2, 2, none⟩ = some (.int .u64 (ww1 z)) ∧ w'.cell? ⟨w.heap.size + 2, 3, none⟩ = some (.int .u64 (ww0 z))) ((((((((((((W.setCell ⟨(w.heap.size + 1 + 1 + 1), 0, none⟩ v0).setCell ⟨(w.heap.size + 1 + 1 + 1), 1, none⟩ v1).setCell ⟨(w.heap.size + 1 + 1 + 1), 2, none⟩ v2).setCell ⟨(w.heap.size + 1 + 1 + 1), 3, none⟩ v3).setCell ⟨(w.heap.size + 1 + 1 + 1), 4, none⟩ v4).setCell ⟨(w.heap.size + 1 + 1 + 1), 5, none⟩ v5).setCell ⟨(w.heap.size + 1 + 1 + 1), 6, none⟩ v6).setCell ⟨(w.heap.size + 1 + 1 + 1), 7, none⟩ v7).setCell ⟨(w.heap.size + 1 + 1 + 1), 8, none⟩ v8).setCell ⟨(w.heap.size + 1 + 1 + 1), 9, none⟩ v9).setCell ⟨(w.heap.size + 1 + 1 + 1), 10, none⟩ v10).setCell ⟨(w.heap.size + 1 + 1 + 1), 11, none⟩ v11) := by
  have h0 : Blk ((((((((((((W.setCell ⟨(w.heap.size + 1 + 1 + 1), 0, none⟩ v0).setCell ⟨(w.heap.size + 1 + 1 + 1), 1, none⟩ v1).setCell ⟨(w.heap.size + 1 + 1 + 1), 2, none⟩ v2).setCell ⟨(w.heap.size + 1 + 1 + 1), 3, none⟩ v3).setCell ⟨(w.heap.size + 1 + 1 + 1), 4, none⟩ v4).setCell ⟨(w.heap.size + 1 + 1 + 1), 5, none⟩ v5).setCell ⟨(w.heap.size + 1 + 1 + 1), 6, none⟩ v6).setCell ⟨(w.heap.size + 1 + 1 + 1), 7, none⟩ v7).setCell ⟨(w.heap.size + 1 + 1 + 1), 8, none⟩ v8).setCell ⟨(w.heap.size + 1 + 1 + 1), 9, none⟩ v9).setCell ⟨(w.heap.size + 1 + 1 + 1), 10, none⟩ v10).setCell ⟨(w.heap.size + 1 + 1 + 1), 11, none⟩ v11) (w.heap.size + 0) _ := (T0.b 0 rfl).set12 (by omega)
  have h1 : Blk ((((((((((((W.setCell ⟨(w.heap.size + 1 + 1 + 1), 0, none⟩ v0).setCell ⟨(w.heap.size + 1 + 1 + 1), 1, none⟩ v1).setCell ⟨(w.heap.size + 1 + 1 + 1), 2, none⟩ v2).setCell ⟨(w.heap.size + 1 + 1 + 1), 3, none⟩ v3).setCell ⟨(w.heap.size + 1 + 1 + 1), 4, none⟩ v4).setCell ⟨(w.heap.size + 1 + 1 + 1), 5, none⟩ v5).setCell ⟨(w.heap.size + 1 + 1 + 1), 6, none⟩ v6).setCell ⟨(w.heap.size + 1 + 1 + 1), 7, none⟩ v7).setCell ⟨(w.heap.size + 1 + 1 + 1), 8, none⟩ v8).setCell ⟨(w.heap.size + 1 + 1 + 1), 9, none⟩ v9).setCell ⟨(w.heap.size + 1 + 1 + 1), 10, none⟩ v10).setCell ⟨(w.heap.size + 1 + 1 + 1), 11, none⟩ v11) (w.heap.size + 1) _ := (T0.b 1 rfl).set12 (by omega)
  have h2 : Blk ((((((((((((W.setCell ⟨(w.heap.size + 1 + 1 + 1), 0, none⟩ v0).setCell ⟨(w.heap.size + 1 + 1 + 1), 1, none⟩ v1).setCell ⟨(w.heap.size + 1 + 1 + 1), 2, none⟩ v2).setCell ⟨(w.heap.size + 1 + 1 + 1), 3, none⟩ v3).setCell ⟨(w.heap.size + 1 + 1 + 1), 4, none⟩ v4).setCell ⟨(w.heap.size + 1 + 1 + 1), 5, none⟩ v5).setCell ⟨(w.heap.size + 1 + 1 + 1), 6, none⟩ v6).setCell ⟨(w.heap.size + 1 + 1 + 1), 7, none⟩ v7).setCell ⟨(w.heap.size + 1 + 1 + 1), 8, none⟩ v8).setCell ⟨(w.heap.size + 1 + 1 + 1), 9, none⟩ v9).setCell ⟨(w.heap.size + 1 + 1 + 1), 10, none⟩ v10).setCell ⟨(w.heap.size + 1 + 1 + 1), 11, none⟩ v11) (w.heap.size + 2) _ := (T0.b 2 rfl).set12 (by omega)
  exact ⟨h0.c 0 rfl, h0.c 1 rfl, h0.c 2 rfl, h0.c 3 rfl, h1.c 0 rfl, h1.c 1 rfl, h1.c 2 rfl, h1.c 3 rfl, h2.c 0 rfl, h2.c 1 rfl, h2.c 2 rfl, h2.c 3 rfl⟩
set_option maxRecDepth 100000 in
set_option maxHeartbeats 8000000 in
theorem specPointMake_det (x y z : Int) (hx : told x = true) (hy : told y = true) (hz : told z = true) (w : World) : Calls Try.prog 20 #[W4 x, W4 y, W4 z] w (VP (pmV x y z) w) := by
  have T0 : ArgsB w ((((w.alloc (.cells #[.int .u64 (ww3 x), .int .u64 (ww2 x), .int .u64 (ww1 x), .int .u64 (ww0 x)] 28)).alloc (.cells #[.int .u64 (ww3 y), .int .u64 (ww2 y), .int .u64 (ww1 y), .int .u64 (ww0 y)] 28)).alloc (.cells #[.int .u64 (ww3 z), .int .u64 (ww2 z), .int .u64 (ww1 z), .int .u64 (ww0 z)] 28)).alloc (.cells #[.int .u64 0, .int .u64 0, .int .u64 0, .int .u64 0, .int .u64 0, .int .u64 0, .int .u64 0, .int .u64 0, .int .u64 0, .int .u64 0, .int .u64 0, .int .u64 0] 30)) [[.int .u64 (ww3 x), .int .u64 (ww2 x), .int .u64 (ww1 x), .int .u64 (ww0 x)], [.int .u64 (ww3 y), .int .u64 (ww2 y), .int .u64 (ww1 y), .int .u64 (ww0 y)], [.int .u64 (ww3 z), .int .u64 (ww2 z), .int .u64 (ww1 z), .int .u64 (ww0 z)], [.int .u64 0, .int .u64 0, .int .u64 0, .int .u64 0, .int .u64 0, .int .u64 0, .int .u64 0, .int .u64 0, .int .u64 0, .int .u64 0, .int .u64 0, .int .u64 0]] := ar4 _ _ _ _ _ _ _ _ w
  obtain ⟨z3, z2, z1, z0⟩ := ww_words z
  have EZ := eqZ4 (ww3 z) (ww2 z) (ww1 z) (ww0 z)
  rw [zero4 z3 z2 z1 z0, ww_sw hz] at EZ
  clear z3 z2 z1 z0
  by_cases h0 : z = 0
  · have HO : Hid (pmV x y z = .tuple #[.agg #[.int .u64 0, .int .u64 0, .int .u64 0, .int .u64 0, .int .u64 0, .int .u64 0, .int .u64 0, .int .u64 0, .int .u64 0, .int .u64 0, .int .u64 0, .int .u64 0], .bool false]) := by show _ = _; unfold pmV; rw [if_pos h0]
    rw [decide_eq_true h0] at EZ
    clear h0 hx hy hz
    go_enter Try.func20, Try.ntmps20
    go_upto_region 1 with fail
    generalize ((((w.alloc (.cells #[.int .u64 (ww3 x), .int .u64 (ww2 x), .int .u64 (ww1 x), .int .u64 (ww0 x)] 28)).alloc (.cells #[.int .u64 (ww3 y), .int .u64 (ww2 y), .int .u64 (ww1 y), .int .u64 (ww0 y)] 28)).alloc (.cells #[.int .u64 (ww3 z), .int .u64 (ww2 z), .int .u64 (ww1 z), .int .u64 (ww0 z)] 28)).alloc (.cells #[.int .u64 0, .int .u64 0, .int .u64 0, .int .u64 0, .int .u64 0, .int .u64 0, .int .u64 0, .int .u64 0, .int .u64 0, .int .u64 0, .int .u64 0, .int .u64 0] 30)) = W0 at *
    have aB : Blk _ (w.heap.size) _ := T0.b 0 rfl; have a0 := aB.c 0 rfl; have a1 := aB.c 1 rfl; have a2 := aB.c 2 rfl; have a3 := aB.c 3 rfl; clear aB; have bB : Blk _ (w.heap.size + 1) _ := T0.b 1 rfl; have b0 := bB.c 0 rfl; have b1 := bB.c 1 rfl; have b2 := bB.c 2 rfl; have b3 := bB.c 3 rfl; clear bB; have eB : Blk _ (w.heap.size + 1 + 1) _ := T0.b 2 rfl; have e0 := eB.c 0 rfl; have e1 := eB.c 1 rfl; have e2 := eB.c 2 rfl; have e3 := eB.c 3 rfl; clear eB
    have o0 := (T0.b 3 rfl).c 0 rfl; have u0 := (T0.b 3 rfl).f 0 rfl; have o1 := (T0.b 3 rfl).c 1 rfl; have u1 := (T0.b 3 rfl).f 1 rfl; have o2 := (T0.b 3 rfl).c 2 rfl; have u2 := (T0.b 3 rfl).f 2 rfl; have o3 := (T0.b 3 rfl).c 3 rfl; have u3 := (T0.b 3 rfl).f 3 rfl; have o4 := (T0.b 3 rfl).c 4 rfl; have u4 := (T0.b 3 rfl).f 4 rfl; have o5 := (T0.b 3 rfl).c 5 rfl; have u5 := (T0.b 3 rfl).f 5 rfl; have o6 := (T0.b 3 rfl).c 6 rfl; have u6 := (T0.b 3 rfl).f 6 rfl; have o7 := (T0.b 3 rfl).c 7 rfl; have u7 := (T0.b 3 rfl).f 7 rfl; have o8 := (T0.b 3 rfl).c 8 rfl; have u8 := (T0.b 3 rfl).f 8 rfl; have o9 := (T0.b 3 rfl).c 9 rfl; have u9 := (T0.b 3 rfl).f 9 rfl; have o10 := (T0.b 3 rfl).c 10 rfl; have u10 := (T0.b 3 rfl).f 10 rfl; have o11 := (T0.b 3 rfl).c 11 rfl; have u11 := (T0.b 3 rfl).f 11 rfl; have olt := (T0.b 3 rfl).lt
    have HB := T0.below
    clear T0
    go_wp2
    refine bodyPost_ret (v := .tuple #[.agg #[.int .u64 0, .int .u64 0, .int .u64 0, .int .u64 0, .int .u64 0, .int .u64 0, .int .u64 0, .int .u64 0, .int .u64 0, .int .u64 0, .int .u64 0, .int .u64 0], .bool false]) (by simp [results, Try.results20, go_sem, o0, o1, o2, o3, o4, o5, o6, o7, o8, o9, o10, o11]) rfl ?_
    refine ⟨by rw [HO.out], ?_⟩
    repeat' (refine Below.setCell ?_ (by simp; try omega) _)
    exact HB
  · have HO : Hid (pmV x y z = ptV (shareZ x (Int.gcd (Int.gcd x y : Int) z : Int) (decide (z < 0))) (shareZ y (Int.gcd (Int.gcd x y : Int) z : Int) (decide (z < 0))) (shareZ z (Int.gcd (Int.gcd x y : Int) z : Int) (decide (z < 0)))) := by show _ = _; unfold pmV; rw [if_neg h0]
    rw [decide_eq_false h0] at EZ
    have F1 := fromW_det x hx
    have F2 := fromW_det y hy
    have F3 := fromW_det z hz
    obtain ⟨r0, r1, r2, r3, r4, r5, r6, r7, r8, r9, r10, r11, t, ht⟩ := ptV_ex (shareZ x (Int.gcd (Int.gcd x y : Int) z : Int) (decide (z < 0))) (shareZ y (Int.gcd (Int.gcd x y : Int) z : Int) (decide (z < 0))) (shareZ z (Int.gcd (Int.gcd x y : Int) z : Int) (decide (z < 0)))
    rw [ht] at HO
    clear hx hy hz
    have tok1 : True := trivial
    have tok2 : True := trivial
    go_enter Try.func20, Try.ntmps20
    go_upto_region 1 with fail
    generalize ((((w.alloc (.cells #[.int .u64 (ww3 x), .int .u64 (ww2 x), .int .u64 (ww1 x), .int .u64 (ww0 x)] 28)).alloc (.cells #[.int .u64 (ww3 y), .int .u64 (ww2 y), .int .u64 (ww1 y), .int .u64 (ww0 y)] 28)).alloc (.cells #[.int .u64 (ww3 z), .int .u64 (ww2 z), .int .u64 (ww1 z), .int .u64 (ww0 z)] 28)).alloc (.cells #[.int .u64 0, .int .u64 0, .int .u64 0, .int .u64 0, .int .u64 0, .int .u64 0, .int .u64 0, .int .u64 0, .int .u64 0, .int .u64 0, .int .u64 0, .int .u64 0] 30)) = W0 at *
    have aB : Blk _ (w.heap.size) _ := T0.b 0 rfl; have a0 := aB.c 0 rfl; have a1 := aB.c 1 rfl; have a2 := aB.c 2 rfl; have a3 := aB.c 3 rfl; clear aB; have bB : Blk _ (w.heap.size + 1) _ := T0.b 1 rfl; have b0 := bB.c 0 rfl; have b1 := bB.c 1 rfl; have b2 := bB.c 2 rfl; have b3 := bB.c 3 rfl; clear bB; have eB : Blk _ (w.heap.size + 1 + 1) _ := T0.b 2 rfl; have e0 := eB.c 0 rfl; have e1 := eB.c 1 rfl; have e2 := eB.c 2 rfl; have e3 := eB.c 3 rfl; clear eB
    go_upto_region 3 with fail
    clear a0 a1 a2 a3 b0 b1 b2 b3 e0 e1 e2 e3
    go_region_held3 (fun w' => w'.cell? ⟨w.heap.size, 0, none⟩ = some (.int .u64 (ww3 x)) ∧ w'.cell? ⟨w.heap.size, 1, none⟩ = some (.int .u64 (ww2 x)) ∧ w'.cell? ⟨w.heap.size, 2, none⟩ = some (.int .u64 (ww1 x)) ∧ w'.cell? ⟨w.heap.size, 3, none⟩ = some (.int .u64 (ww0 x)) ∧ w'.cell? ⟨w.heap.size + 1, 0, none⟩ = some (.int .u64 (ww3 y)) ∧ w'.cell? ⟨w.heap.size + 1, 1, none⟩ = some (.int .u64 (ww2 y)) ∧ w'.cell? ⟨w.heap.size + 1, 2, none⟩ = some (.int .u64 (ww1 y)) ∧ w'.cell? ⟨w.heap.size + 1, 3, none⟩ = some (.int .u64 (ww0 y)) ∧ w'.cell? ⟨w.heap.size + 2, 0, none⟩ = some (.int .u64 (ww3 z)) ∧ w'.cell? ⟨w.heap.size + 2, 1, none⟩ = some (.int .u64 (ww2 z)) ∧ w'.cell? ⟨w.heap.size + 2, 2, none⟩ = some (.int .u64 (ww1 z)) ∧ w'.cell? ⟨w.heap.size + 2, 3, none⟩ = some (.int .u64 (ww0 z))) (first | (with_reducible exact pm_cells T0) | (with_reducible exact pm_cells T0.drew) | (with_reducible exact pm_cells12 T0))
      (first
        | (go_at_call 66; have _t := tok1; refine (F1 _).mono ?_; rintro e k1 ⟨s1, o1', n1, c1, d1, rfl, N1, hB⟩; (first | (have T1 := T0.step hB) | (have T1 := T0.drew.step hB)); clear T0; have T0 := T1; clear T1; clear hB tok1 _t)
        | (go_at_call 66; have _t := tok2; refine (F2 _).mono ?_; rintro e k2 ⟨s2, o2', n2, c2, d2, rfl, N2, hB⟩; (first | (have T1 := T0.step hB) | (have T1 := T0.drew.step hB)); clear T0; have T0 := T1; clear T1; replace N1 := N1.below hB; clear hB tok2 _t)
        | (go_at_call 66; refine (F3 _).mono ?_; rintro e k3 ⟨s3, o3', n3, c3, d3, rfl, N3, hB⟩; (first | (have T1 := T0.step hB) | (have T1 := T0.drew.step hB)); clear T0; have T0 := T1; clear T1; replace N1 := N1.below hB; replace N2 := N2.below hB; clear hB)
        | (go_at_call 65; refine (l3Make_any s1 o1' n1 c1 d1 s2 o2' n2 c2 d2 s3 o3' n3 c3 d3 x y z 8 (by omega) (by omega) _ N1 N2 N3 h0).mono ?_; rintro e k4 ⟨ps1, po1, pn1, pc1, pd1, ps2, po2, pn2, pc2, pd2, ps3, po3, pn3, pc3, pd3, rfl, M1, M2, M3, hB⟩; (first | (have T1 := T0.step hB) | (have T1 := T0.drew.step hB)); clear T0; have T0 := T1; clear T1; clear hB N1 N2 N3)
        | (go_at_call 64; refine (l3Point_any ps1 po1 pn1 pc1 pd1 ps2 po2 pn2 pc2 pd2 ps3 po3 pn3 pc3 pd3 _ _ _ _ (by omega) _ M1 M2 M3).mono ?_; rw [ht]; rintro e k5 ⟨rfl, hB⟩; (first | (have T1 := T0.step hB) | (have T1 := T0.drew.step hB)); clear T0; have T0 := T1; clear T1; clear hB M1 M2 M3; have o0 := (T0.b 3 rfl).c 0 rfl; have u0 := (T0.b 3 rfl).f 0 rfl; have o1 := (T0.b 3 rfl).c 1 rfl; have u1 := (T0.b 3 rfl).f 1 rfl; have o2 := (T0.b 3 rfl).c 2 rfl; have u2 := (T0.b 3 rfl).f 2 rfl; have o3 := (T0.b 3 rfl).c 3 rfl; have u3 := (T0.b 3 rfl).f 3 rfl; have o4 := (T0.b 3 rfl).c 4 rfl; have u4 := (T0.b 3 rfl).f 4 rfl; have o5 := (T0.b 3 rfl).c 5 rfl; have u5 := (T0.b 3 rfl).f 5 rfl; have o6 := (T0.b 3 rfl).c 6 rfl; have u6 := (T0.b 3 rfl).f 6 rfl; have o7 := (T0.b 3 rfl).c 7 rfl; have u7 := (T0.b 3 rfl).f 7 rfl; have o8 := (T0.b 3 rfl).c 8 rfl; have u8 := (T0.b 3 rfl).f 8 rfl; have o9 := (T0.b 3 rfl).c 9 rfl; have u9 := (T0.b 3 rfl).f 9 rfl; have o10 := (T0.b 3 rfl).c 10 rfl; have u10 := (T0.b 3 rfl).f 10 rfl; have o11 := (T0.b 3 rfl).c 11 rfl; have u11 := (T0.b 3 rfl).f 11 rfl; have olt := (T0.b 3 rfl).lt))
    all_goals have HB := T0.below
    all_goals have X3 : Blk _ (w.heap.size + 1 + 1 + 1) _ := T0.b 3 rfl
    all_goals clear T0
    all_goals go_wp2
    all_goals refine bodyPost_ret (v := .tuple #[.agg #[.int .u64 r0, .int .u64 r1, .int .u64 r2, .int .u64 r3, .int .u64 r4, .int .u64 r5, .int .u64 r6, .int .u64 r7, .int .u64 r8, .int .u64 r9, .int .u64 r10, .int .u64 r11], .bool t]) (by simp [results, Try.results20, go_sem, o0, o1, o2, o3, o4, o5, o6, o7, o8, o9, o10, o11]) rfl ?_
    all_goals refine ⟨by rw [HO.out], ?_⟩
    all_goals repeat' (refine Below.setCell ?_ (by simp; try omega) _)
    all_goals first | exact HB | exact HB.drew
end Go.Proofs.Ytckbhihdhcgaeaa
