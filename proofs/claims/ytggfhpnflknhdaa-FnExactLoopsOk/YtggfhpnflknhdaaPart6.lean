/- Part 6 of the walks that the proof leans on. -/
import Derived.Test.YtggfhpnflknhdaaPart5
import Derived.Test.YtggfhpnflknhdaaPart1
import Derived.Test.YtggfhpnflknhdaaRows
import Derived.ProofKit
import Derived.Lib.SmallJoins
import Derived.Deep.Strs
import Derived.Deep.OwnRows
import Derived.Deep.RegionHeld3
import Derived.Deep.RegionWith
/- Points: what three numbers have in common. -/
namespace Go.Proofs.Ytggfhpnflknhdaa
open Go.RowKit
theorem cut3_new {w X : World} {vss : List (List Value)} {rs zs : List Value} {T : TypeId} {g : Nat} (h : ArgsB w X vss) (hl : w.heap.size + vss.length ≤ X.heap.size) (R : Blk X g zs) : CutB w (X.alloc (.cells rs.toArray T)) vss rs (.pointer (some ⟨X.heap.size, 0, none⟩)) ∧ Blk (X.alloc (.cells rs.toArray T)) g zs ∧ (Value.pointer (some ⟨X.heap.size, 0, none⟩)) ≠ .pointer (some ⟨g, 0, none⟩) := by
  refine ⟨cutB_new h hl, R.alloc _, ?_⟩
  intro he
  have := R.lt
  simp at he <;> omega
theorem cut3_set8 {w X : World} {vss : List (List Value)} {zs : List Value} {v0 v1 v2 v3 v4 v5 v6 v7 z0 z1 z2 z3 z4 z5 z6 z7 : Value} {g g' : Nat} (h : ArgsB w X vss) (G : Blk X g [z0, z1, z2, z3, z4, z5, z6, z7]) (hg : w.heap.size + vss.length ≤ g) (R : Blk X g' zs) (hne : g' < g) : CutB w ((((((((X.setCell ⟨g, 0, none⟩ v0).setCell ⟨g, 1, none⟩ v1).setCell ⟨g, 2, none⟩ v2).setCell ⟨g, 3, none⟩ v3).setCell ⟨g, 4, none⟩ v4).setCell ⟨g, 5, none⟩ v5).setCell ⟨g, 6, none⟩ v6).setCell ⟨g, 7, none⟩ v7) vss [v0, v1, v2, v3, v4, v5, v6, v7] (.pointer (some ⟨g, 0, none⟩)) ∧ Blk ((((((((X.setCell ⟨g, 0, none⟩ v0).setCell ⟨g, 1, none⟩ v1).setCell ⟨g, 2, none⟩ v2).setCell ⟨g, 3, none⟩ v3).setCell ⟨g, 4, none⟩ v4).setCell ⟨g, 5, none⟩ v5).setCell ⟨g, 6, none⟩ v6).setCell ⟨g, 7, none⟩ v7) g' zs ∧ (Value.pointer (some ⟨g, 0, none⟩)) ≠ .pointer (some ⟨g', 0, none⟩) := by
  refine ⟨cutB_set8 h G hg, R.set8 (by omega), ?_⟩
  intro he
  simp at he <;> omega
theorem c3_cells {x y z : Int} {w W : World} (T0 : ArgsB w W [[.int .u64 (ww3 x), .int .u64 (ww2 x), .int .u64 (ww1 x), .int .u64 (ww0 x)], [.int .u64 (ww3 y), .int .u64 (ww2 y), .int .u64 (ww1 y), .int .u64 (ww0 y)], [.int .u64 (ww3 z), .int .u64 (ww2 z), .int .u64 (ww1 z), .int .u64 (ww0 z)]]) : (fun w' => w'.cell? ⟨w.heap.size, 0, none⟩ = some (.int .u64 (ww3 x)) ∧ w'.cell? ⟨w.heap.size, 1, none⟩ = some (.int .u64 (ww2 x)) ∧ w'.cell? ⟨w.heap.size, 2, none⟩ = some (.int .u64 (ww1 x)) ∧ w'.cell? ⟨w.heap.size, 3, none⟩ = some (.int .u64 (ww0 x)) ∧ w'.cell? ⟨w.heap.size + 1, 0, none⟩ = some (.int .u64 (ww3 y)) ∧ w'.cell? ⟨w.heap.size + 1, 1, none⟩ = some (.int .u64 (ww2 y)) ∧ w'.cell? ⟨w.heap.size + 1, 2, none⟩ = some (.int .u64 (ww1 y)) ∧ w'.cell? ⟨w.heap.size + 1, 3, none⟩ = some (.int .u64 (ww0 y)) ∧ w'.cell? ⟨w.heap.size + 2, 0, none⟩ = some (.int .u64 (ww3 z)) ∧ w'.cell? ⟨w.heap.size + 2, 1, none⟩ = some (.int .u64 (ww2 z)) ∧ w'.cell? ⟨w.heap.size + 2, 2, none⟩ = some (.int .u64 (ww1 z)) ∧ w'.cell? ⟨w.heap.size + 2, 3, none⟩ = some (.int .u64 (ww0 z))) W := ⟨(T0.b 0 rfl).c 0 rfl, (T0.b 0 rfl).c 1 rfl, (T0.b 0 rfl).c 2 rfl, (T0.b 0 rfl).c 3 rfl, (T0.b 1 rfl).c 0 rfl, (T0.b 1 rfl).c 1 rfl, (T0.b 1 rfl).c 2 rfl, (T0.b 1 rfl).c 3 rfl, (T0.b 2 rfl).c 0 rfl, (T0.b 2 rfl).c 1 rfl, (T0.b 2 rfl).c 2 rfl, (T0.b 2 rfl).c 3 rfl⟩
theorem c3_cells2 {x y z g : Int} {w W : World} {gc : Nat} (T0 : ArgsB w W [[.int .u64 (ww3 x), .int .u64 (ww2 x), .int .u64 (ww1 x), .int .u64 (ww0 x)], [.int .u64 (ww3 y), .int .u64 (ww2 y), .int .u64 (ww1 y), .int .u64 (ww0 y)], [.int .u64 (ww3 z), .int .u64 (ww2 z), .int .u64 (ww1 z), .int .u64 (ww0 z)]]) (GC : Blk W gc [.int .u64 (lw0 g), .int .u64 (lw1 g), .int .u64 (lw2 g), .int .u64 (lw3 g), .int .u64 (lw4 g), .int .u64 (lw5 g), .int .u64 (lw6 g), .int .u64 (lw7 g)]) : (fun w' => w'.cell? ⟨w.heap.size + 1, 0, none⟩ = some (.int .u64 (ww3 y)) ∧ w'.cell? ⟨w.heap.size + 1, 1, none⟩ = some (.int .u64 (ww2 y)) ∧ w'.cell? ⟨w.heap.size + 1, 2, none⟩ = some (.int .u64 (ww1 y)) ∧ w'.cell? ⟨w.heap.size + 1, 3, none⟩ = some (.int .u64 (ww0 y)) ∧ w'.cell? ⟨gc, 0, none⟩ = some (.int .u64 (lw0 g)) ∧ w'.cell? ⟨gc, 1, none⟩ = some (.int .u64 (lw1 g)) ∧ w'.cell? ⟨gc, 2, none⟩ = some (.int .u64 (lw2 g)) ∧ w'.cell? ⟨gc, 3, none⟩ = some (.int .u64 (lw3 g)) ∧ w'.cell? ⟨gc, 4, none⟩ = some (.int .u64 (lw4 g)) ∧ w'.cell? ⟨gc, 5, none⟩ = some (.int .u64 (lw5 g)) ∧ w'.cell? ⟨gc, 6, none⟩ = some (.int .u64 (lw6 g)) ∧ w'.cell? ⟨gc, 7, none⟩ = some (.int .u64 (lw7 g))) W := ⟨(T0.b 1 rfl).c 0 rfl, (T0.b 1 rfl).c 1 rfl, (T0.b 1 rfl).c 2 rfl, (T0.b 1 rfl).c 3 rfl, GC.c 0 rfl, GC.c 1 rfl, GC.c 2 rfl, GC.c 3 rfl, GC.c 4 rfl, GC.c 5 rfl, GC.c 6 rfl, GC.c 7 rfl⟩
set_option maxRecDepth 100000 in
set_option maxHeartbeats 2000000 in
theorem common3_det (x y z : Int) (hx : told x = true) (hy : told y = true) (hz : told z = true) (w : World) : Calls Try.prog 108 #[W4 x, W4 y, W4 z] w (VP (LV (Int.gcd (y.natAbs : Int) (Int.gcd (x.natAbs : Int) (z.natAbs : Int) : Int) : Int)) w) := by
  have T5 : ArgsB w ((((w.alloc (.cells #[.int .u64 (ww3 x), .int .u64 (ww2 x), .int .u64 (ww1 x), .int .u64 (ww0 x)] 28)).alloc (.cells #[.int .u64 (ww3 y), .int .u64 (ww2 y), .int .u64 (ww1 y), .int .u64 (ww0 y)] 28)).alloc (.cells #[.int .u64 (ww3 z), .int .u64 (ww2 z), .int .u64 (ww1 z), .int .u64 (ww0 z)] 28)).alloc (.cells #[.int .u64 0, .int .u64 0, .int .u64 0, .int .u64 0, .int .u64 0, .int .u64 0, .int .u64 0, .int .u64 0] 154)) [[.int .u64 (ww3 x), .int .u64 (ww2 x), .int .u64 (ww1 x), .int .u64 (ww0 x)], [.int .u64 (ww3 y), .int .u64 (ww2 y), .int .u64 (ww1 y), .int .u64 (ww0 y)], [.int .u64 (ww3 z), .int .u64 (ww2 z), .int .u64 (ww1 z), .int .u64 (ww0 z)], [.int .u64 0, .int .u64 0, .int .u64 0, .int .u64 0, .int .u64 0, .int .u64 0, .int .u64 0, .int .u64 0]] := ar4 _ _ _ _ _ _ _ _ w
  have R0 := T5.b 3 rfl
  have T0 : ArgsB w _ [[.int .u64 (ww3 x), .int .u64 (ww2 x), .int .u64 (ww1 x), .int .u64 (ww0 x)], [.int .u64 (ww3 y), .int .u64 (ww2 y), .int .u64 (ww1 y), .int .u64 (ww0 y)], [.int .u64 (ww3 z), .int .u64 (ww2 z), .int .u64 (ww1 z), .int .u64 (ww0 z)]] := T5.left (vs := [[.int .u64 0, .int .u64 0, .int .u64 0, .int .u64 0, .int .u64 0, .int .u64 0, .int .u64 0, .int .u64 0]])
  clear T5
  have A1 := longOf_det x hx
  have A2 := longOf_det z hz
  have A3 := longOf_det y hy
  have tx := told_abs hx
  have ty := told_abs hy
  have tz := told_abs hz
  have B1 := size_det x (told_lr hx) (by omega)
  have B2 := size_det z (told_lr hz) (by omega)
  have B3 := size_det y (told_lr hy) (by omega)
  have gb := gcd_le x.natAbs z.natAbs 57896044618658097711785492504343953926634992332820282019728792003956564819968 (by omega) (by omega)
  have gb2 := gcd_le y.natAbs (Int.gcd (x.natAbs : Int) (z.natAbs : Int)) 57896044618658097711785492504343953926634992332820282019728792003956564819968 (by omega) (by omega)
  have C1 := gcd_det (x.natAbs : Int) (z.natAbs : Int) ⟨by omega, by omega⟩ ⟨by omega, by omega⟩ (by omega)
  have C2 := gcd_det (y.natAbs : Int) (Int.gcd (x.natAbs : Int) (z.natAbs : Int) : Int) ⟨by omega, by omega⟩ ⟨by omega, by omega⟩ (by omega)
  clear gb gb2 tx ty tz hx hy hz
  generalize ((Int.gcd (y.natAbs : Int) (Int.gcd (x.natAbs : Int) (z.natAbs : Int) : Int) : Nat) : Int) = q at *
  generalize ((Int.gcd (x.natAbs : Int) (z.natAbs : Int) : Nat) : Int) = g at *
  generalize (x.natAbs : Int) = ax at *
  generalize (y.natAbs : Int) = ay at *
  generalize (z.natAbs : Int) = az at *
  have tok1 : True := trivial
  have tok2 : True := trivial
  go_enter Try.func108, Try.ntmps108
  go_upto_region 1 with fail
  generalize ((((w.alloc (.cells #[.int .u64 (ww3 x), .int .u64 (ww2 x), .int .u64 (ww1 x), .int .u64 (ww0 x)] 28)).alloc (.cells #[.int .u64 (ww3 y), .int .u64 (ww2 y), .int .u64 (ww1 y), .int .u64 (ww0 y)] 28)).alloc (.cells #[.int .u64 (ww3 z), .int .u64 (ww2 z), .int .u64 (ww1 z), .int .u64 (ww0 z)] 28)).alloc (.cells #[.int .u64 0, .int .u64 0, .int .u64 0, .int .u64 0, .int .u64 0, .int .u64 0, .int .u64 0, .int .u64 0] 154)) = W at *
  have hlw := R0.lt
  have hlt := (T0.b 2 rfl).lt
  go_cut [7] (fun p wx => CutB w wx [[.int .u64 (ww3 x), .int .u64 (ww2 x), .int .u64 (ww1 x), .int .u64 (ww0 x)], [.int .u64 (ww3 y), .int .u64 (ww2 y), .int .u64 (ww1 y), .int .u64 (ww0 y)], [.int .u64 (ww3 z), .int .u64 (ww2 z), .int .u64 (ww1 z), .int .u64 (ww0 z)]] [.int .u64 (lw0 g), .int .u64 (lw1 g), .int .u64 (lw2 g), .int .u64 (lw3 g), .int .u64 (lw4 g), .int .u64 (lw5 g), .int .u64 (lw6 g), .int .u64 (lw7 g)] p ∧ Blk wx (w.heap.size + 3) [.int .u64 0, .int .u64 0, .int .u64 0, .int .u64 0, .int .u64 0, .int .u64 0, .int .u64 0, .int .u64 0] ∧ p ≠ .pointer (some ⟨w.heap.size + 3, 0, none⟩))
  case first =>
    go_region_held3 (fun w' => w'.cell? ⟨w.heap.size, 0, none⟩ = some (.int .u64 (ww3 x)) ∧ w'.cell? ⟨w.heap.size, 1, none⟩ = some (.int .u64 (ww2 x)) ∧ w'.cell? ⟨w.heap.size, 2, none⟩ = some (.int .u64 (ww1 x)) ∧ w'.cell? ⟨w.heap.size, 3, none⟩ = some (.int .u64 (ww0 x)) ∧ w'.cell? ⟨w.heap.size + 1, 0, none⟩ = some (.int .u64 (ww3 y)) ∧ w'.cell? ⟨w.heap.size + 1, 1, none⟩ = some (.int .u64 (ww2 y)) ∧ w'.cell? ⟨w.heap.size + 1, 2, none⟩ = some (.int .u64 (ww1 y)) ∧ w'.cell? ⟨w.heap.size + 1, 3, none⟩ = some (.int .u64 (ww0 y)) ∧ w'.cell? ⟨w.heap.size + 2, 0, none⟩ = some (.int .u64 (ww3 z)) ∧ w'.cell? ⟨w.heap.size + 2, 1, none⟩ = some (.int .u64 (ww2 z)) ∧ w'.cell? ⟨w.heap.size + 2, 2, none⟩ = some (.int .u64 (ww1 z)) ∧ w'.cell? ⟨w.heap.size + 2, 3, none⟩ = some (.int .u64 (ww0 z))) ((refine c3_cells ?_ <;> repeat (first | (with_reducible exact T0) | (with_reducible refine ArgsB.drew ?_) | (with_reducible refine ArgsB.alloc ?_ _) | (with_reducible refine ArgsB.set8g ?_ (by simp; omega) _ _ _ _ _ _ _ _))))
      (first
        | (go_at_call 138; have _t := tok1; refine (A1 _).mono ?_; rintro e w1 ⟨rfl, hB⟩; (first | (have T1 : ArgsB w w1 [[.int .u64 (ww3 x), .int .u64 (ww2 x), .int .u64 (ww1 x), .int .u64 (ww0 x)], [.int .u64 (ww3 y), .int .u64 (ww2 y), .int .u64 (ww1 y), .int .u64 (ww0 y)], [.int .u64 (ww3 z), .int .u64 (ww2 z), .int .u64 (ww1 z), .int .u64 (ww0 z)]] := (by with_reducible exact T0.step hB); have tltw1 := (T0.b 2 rfl).lt; have lR0w1 := R0.lt; replace R0 := R0.step hB; (try (replace G0 := G0.step hB; have j0c := G0.c 0 rfl; have j0f := G0.f 0 rfl; have j1c := G0.c 1 rfl; have j1f := G0.f 1 rfl; have j2c := G0.c 2 rfl; have j2f := G0.f 2 rfl; have j3c := G0.c 3 rfl; have j3f := G0.f 3 rfl; have j4c := G0.c 4 rfl; have j4f := G0.f 4 rfl; have j5c := G0.c 5 rfl; have j5f := G0.f 5 rfl; have j6c := G0.c 6 rfl; have j6f := G0.f 6 rfl; have j7c := G0.c 7 rfl; have j7f := G0.f 7 rfl; have jlt := G0.lt))) | (have T1 : ArgsB w w1 [[.int .u64 (ww3 x), .int .u64 (ww2 x), .int .u64 (ww1 x), .int .u64 (ww0 x)], [.int .u64 (ww3 y), .int .u64 (ww2 y), .int .u64 (ww1 y), .int .u64 (ww0 y)], [.int .u64 (ww3 z), .int .u64 (ww2 z), .int .u64 (ww1 z), .int .u64 (ww0 z)]] := (by with_reducible exact T0.drew.step hB); have tltw1 := (T0.b 2 rfl).lt; have lR0w1 := R0.lt; replace R0 := R0.drew.step hB; (try (replace G0 := G0.drew.step hB; have j0c := G0.c 0 rfl; have j0f := G0.f 0 rfl; have j1c := G0.c 1 rfl; have j1f := G0.f 1 rfl; have j2c := G0.c 2 rfl; have j2f := G0.f 2 rfl; have j3c := G0.c 3 rfl; have j3f := G0.f 3 rfl; have j4c := G0.c 4 rfl; have j4f := G0.f 4 rfl; have j5c := G0.c 5 rfl; have j5f := G0.f 5 rfl; have j6c := G0.c 6 rfl; have j6f := G0.f 6 rfl; have j7c := G0.c 7 rfl; have j7f := G0.f 7 rfl; have jlt := G0.lt))) | (have T1 : ArgsB w w1 [[.int .u64 (ww3 x), .int .u64 (ww2 x), .int .u64 (ww1 x), .int .u64 (ww0 x)], [.int .u64 (ww3 y), .int .u64 (ww2 y), .int .u64 (ww1 y), .int .u64 (ww0 y)], [.int .u64 (ww3 z), .int .u64 (ww2 z), .int .u64 (ww1 z), .int .u64 (ww0 z)]] := (by with_reducible exact (T0.alloc _).step hB); have tltw1 := (T0.b 2 rfl).lt; have lR0w1 := R0.lt; replace R0 := (R0.alloc _).step hB; (have G0 := (Blk.new _ [.int .u64 0, .int .u64 0, .int .u64 0, .int .u64 0, .int .u64 0, .int .u64 0, .int .u64 0, .int .u64 0] _ rfl).step hB; have j0c := G0.c 0 rfl; have j0f := G0.f 0 rfl; have j1c := G0.c 1 rfl; have j1f := G0.f 1 rfl; have j2c := G0.c 2 rfl; have j2f := G0.f 2 rfl; have j3c := G0.c 3 rfl; have j3f := G0.f 3 rfl; have j4c := G0.c 4 rfl; have j4f := G0.f 4 rfl; have j5c := G0.c 5 rfl; have j5f := G0.f 5 rfl; have j6c := G0.c 6 rfl; have j6f := G0.f 6 rfl; have j7c := G0.c 7 rfl; have j7f := G0.f 7 rfl; have jlt := G0.lt)) | (have T1 : ArgsB w w1 [[.int .u64 (ww3 x), .int .u64 (ww2 x), .int .u64 (ww1 x), .int .u64 (ww0 x)], [.int .u64 (ww3 y), .int .u64 (ww2 y), .int .u64 (ww1 y), .int .u64 (ww0 y)], [.int .u64 (ww3 z), .int .u64 (ww2 z), .int .u64 (ww1 z), .int .u64 (ww0 z)]] := (by with_reducible exact (T0.alloc _).drew.step hB); have tltw1 := (T0.b 2 rfl).lt; have lR0w1 := R0.lt; replace R0 := (R0.alloc _).drew.step hB; (have G0 := (Blk.new _ [.int .u64 0, .int .u64 0, .int .u64 0, .int .u64 0, .int .u64 0, .int .u64 0, .int .u64 0, .int .u64 0] _ rfl).drew.step hB; have j0c := G0.c 0 rfl; have j0f := G0.f 0 rfl; have j1c := G0.c 1 rfl; have j1f := G0.f 1 rfl; have j2c := G0.c 2 rfl; have j2f := G0.f 2 rfl; have j3c := G0.c 3 rfl; have j3f := G0.f 3 rfl; have j4c := G0.c 4 rfl; have j4f := G0.f 4 rfl; have j5c := G0.c 5 rfl; have j5f := G0.f 5 rfl; have j6c := G0.c 6 rfl; have j6f := G0.f 6 rfl; have j7c := G0.c 7 rfl; have j7f := G0.f 7 rfl; have jlt := G0.lt))); clear T0; have T0 := T1; clear T1; clear hB; clear tok1 _t)
        | (go_at_call 138; refine (A2 _).mono ?_; rintro e w2 ⟨rfl, hB⟩; (first | (have T1 : ArgsB w w2 [[.int .u64 (ww3 x), .int .u64 (ww2 x), .int .u64 (ww1 x), .int .u64 (ww0 x)], [.int .u64 (ww3 y), .int .u64 (ww2 y), .int .u64 (ww1 y), .int .u64 (ww0 y)], [.int .u64 (ww3 z), .int .u64 (ww2 z), .int .u64 (ww1 z), .int .u64 (ww0 z)]] := (by with_reducible exact T0.step hB); have tltw2 := (T0.b 2 rfl).lt; have lR0w2 := R0.lt; replace R0 := R0.step hB; (try (replace G0 := G0.step hB; have j0c := G0.c 0 rfl; have j0f := G0.f 0 rfl; have j1c := G0.c 1 rfl; have j1f := G0.f 1 rfl; have j2c := G0.c 2 rfl; have j2f := G0.f 2 rfl; have j3c := G0.c 3 rfl; have j3f := G0.f 3 rfl; have j4c := G0.c 4 rfl; have j4f := G0.f 4 rfl; have j5c := G0.c 5 rfl; have j5f := G0.f 5 rfl; have j6c := G0.c 6 rfl; have j6f := G0.f 6 rfl; have j7c := G0.c 7 rfl; have j7f := G0.f 7 rfl; have jlt := G0.lt))) | (have T1 : ArgsB w w2 [[.int .u64 (ww3 x), .int .u64 (ww2 x), .int .u64 (ww1 x), .int .u64 (ww0 x)], [.int .u64 (ww3 y), .int .u64 (ww2 y), .int .u64 (ww1 y), .int .u64 (ww0 y)], [.int .u64 (ww3 z), .int .u64 (ww2 z), .int .u64 (ww1 z), .int .u64 (ww0 z)]] := (by with_reducible exact T0.drew.step hB); have tltw2 := (T0.b 2 rfl).lt; have lR0w2 := R0.lt; replace R0 := R0.drew.step hB; (try (replace G0 := G0.drew.step hB; have j0c := G0.c 0 rfl; have j0f := G0.f 0 rfl; have j1c := G0.c 1 rfl; have j1f := G0.f 1 rfl; have j2c := G0.c 2 rfl; have j2f := G0.f 2 rfl; have j3c := G0.c 3 rfl; have j3f := G0.f 3 rfl; have j4c := G0.c 4 rfl; have j4f := G0.f 4 rfl; have j5c := G0.c 5 rfl; have j5f := G0.f 5 rfl; have j6c := G0.c 6 rfl; have j6f := G0.f 6 rfl; have j7c := G0.c 7 rfl; have j7f := G0.f 7 rfl; have jlt := G0.lt))) | (have T1 : ArgsB w w2 [[.int .u64 (ww3 x), .int .u64 (ww2 x), .int .u64 (ww1 x), .int .u64 (ww0 x)], [.int .u64 (ww3 y), .int .u64 (ww2 y), .int .u64 (ww1 y), .int .u64 (ww0 y)], [.int .u64 (ww3 z), .int .u64 (ww2 z), .int .u64 (ww1 z), .int .u64 (ww0 z)]] := (by with_reducible exact (T0.alloc _).step hB); have tltw2 := (T0.b 2 rfl).lt; have lR0w2 := R0.lt; replace R0 := (R0.alloc _).step hB; (have G0 := (Blk.new _ [.int .u64 0, .int .u64 0, .int .u64 0, .int .u64 0, .int .u64 0, .int .u64 0, .int .u64 0, .int .u64 0] _ rfl).step hB; have j0c := G0.c 0 rfl; have j0f := G0.f 0 rfl; have j1c := G0.c 1 rfl; have j1f := G0.f 1 rfl; have j2c := G0.c 2 rfl; have j2f := G0.f 2 rfl; have j3c := G0.c 3 rfl; have j3f := G0.f 3 rfl; have j4c := G0.c 4 rfl; have j4f := G0.f 4 rfl; have j5c := G0.c 5 rfl; have j5f := G0.f 5 rfl; have j6c := G0.c 6 rfl; have j6f := G0.f 6 rfl; have j7c := G0.c 7 rfl; have j7f := G0.f 7 rfl; have jlt := G0.lt)) | (have T1 : ArgsB w w2 [[.int .u64 (ww3 x), .int .u64 (ww2 x), .int .u64 (ww1 x), .int .u64 (ww0 x)], [.int .u64 (ww3 y), .int .u64 (ww2 y), .int .u64 (ww1 y), .int .u64 (ww0 y)], [.int .u64 (ww3 z), .int .u64 (ww2 z), .int .u64 (ww1 z), .int .u64 (ww0 z)]] := (by with_reducible exact (T0.alloc _).drew.step hB); have tltw2 := (T0.b 2 rfl).lt; have lR0w2 := R0.lt; replace R0 := (R0.alloc _).drew.step hB; (have G0 := (Blk.new _ [.int .u64 0, .int .u64 0, .int .u64 0, .int .u64 0, .int .u64 0, .int .u64 0, .int .u64 0, .int .u64 0] _ rfl).drew.step hB; have j0c := G0.c 0 rfl; have j0f := G0.f 0 rfl; have j1c := G0.c 1 rfl; have j1f := G0.f 1 rfl; have j2c := G0.c 2 rfl; have j2f := G0.f 2 rfl; have j3c := G0.c 3 rfl; have j3f := G0.f 3 rfl; have j4c := G0.c 4 rfl; have j4f := G0.f 4 rfl; have j5c := G0.c 5 rfl; have j5f := G0.f 5 rfl; have j6c := G0.c 6 rfl; have j6f := G0.f 6 rfl; have j7c := G0.c 7 rfl; have j7f := G0.f 7 rfl; have jlt := G0.lt))); clear T0; have T0 := T1; clear T1; clear hB)
        | (go_at_call 139; have _t := tok2; refine (B1 _).mono ?_; rintro e w3 ⟨rfl, hB⟩; (first | (have T1 : ArgsB w w3 [[.int .u64 (ww3 x), .int .u64 (ww2 x), .int .u64 (ww1 x), .int .u64 (ww0 x)], [.int .u64 (ww3 y), .int .u64 (ww2 y), .int .u64 (ww1 y), .int .u64 (ww0 y)], [.int .u64 (ww3 z), .int .u64 (ww2 z), .int .u64 (ww1 z), .int .u64 (ww0 z)]] := (by with_reducible exact T0.step hB); have tltw3 := (T0.b 2 rfl).lt; have lR0w3 := R0.lt; replace R0 := R0.step hB; (try (replace G0 := G0.step hB; have j0c := G0.c 0 rfl; have j0f := G0.f 0 rfl; have j1c := G0.c 1 rfl; have j1f := G0.f 1 rfl; have j2c := G0.c 2 rfl; have j2f := G0.f 2 rfl; have j3c := G0.c 3 rfl; have j3f := G0.f 3 rfl; have j4c := G0.c 4 rfl; have j4f := G0.f 4 rfl; have j5c := G0.c 5 rfl; have j5f := G0.f 5 rfl; have j6c := G0.c 6 rfl; have j6f := G0.f 6 rfl; have j7c := G0.c 7 rfl; have j7f := G0.f 7 rfl; have jlt := G0.lt))) | (have T1 : ArgsB w w3 [[.int .u64 (ww3 x), .int .u64 (ww2 x), .int .u64 (ww1 x), .int .u64 (ww0 x)], [.int .u64 (ww3 y), .int .u64 (ww2 y), .int .u64 (ww1 y), .int .u64 (ww0 y)], [.int .u64 (ww3 z), .int .u64 (ww2 z), .int .u64 (ww1 z), .int .u64 (ww0 z)]] := (by with_reducible exact T0.drew.step hB); have tltw3 := (T0.b 2 rfl).lt; have lR0w3 := R0.lt; replace R0 := R0.drew.step hB; (try (replace G0 := G0.drew.step hB; have j0c := G0.c 0 rfl; have j0f := G0.f 0 rfl; have j1c := G0.c 1 rfl; have j1f := G0.f 1 rfl; have j2c := G0.c 2 rfl; have j2f := G0.f 2 rfl; have j3c := G0.c 3 rfl; have j3f := G0.f 3 rfl; have j4c := G0.c 4 rfl; have j4f := G0.f 4 rfl; have j5c := G0.c 5 rfl; have j5f := G0.f 5 rfl; have j6c := G0.c 6 rfl; have j6f := G0.f 6 rfl; have j7c := G0.c 7 rfl; have j7f := G0.f 7 rfl; have jlt := G0.lt))) | (have T1 : ArgsB w w3 [[.int .u64 (ww3 x), .int .u64 (ww2 x), .int .u64 (ww1 x), .int .u64 (ww0 x)], [.int .u64 (ww3 y), .int .u64 (ww2 y), .int .u64 (ww1 y), .int .u64 (ww0 y)], [.int .u64 (ww3 z), .int .u64 (ww2 z), .int .u64 (ww1 z), .int .u64 (ww0 z)]] := (by with_reducible exact (T0.alloc _).step hB); have tltw3 := (T0.b 2 rfl).lt; have lR0w3 := R0.lt; replace R0 := (R0.alloc _).step hB; (have G0 := (Blk.new _ [.int .u64 0, .int .u64 0, .int .u64 0, .int .u64 0, .int .u64 0, .int .u64 0, .int .u64 0, .int .u64 0] _ rfl).step hB; have j0c := G0.c 0 rfl; have j0f := G0.f 0 rfl; have j1c := G0.c 1 rfl; have j1f := G0.f 1 rfl; have j2c := G0.c 2 rfl; have j2f := G0.f 2 rfl; have j3c := G0.c 3 rfl; have j3f := G0.f 3 rfl; have j4c := G0.c 4 rfl; have j4f := G0.f 4 rfl; have j5c := G0.c 5 rfl; have j5f := G0.f 5 rfl; have j6c := G0.c 6 rfl; have j6f := G0.f 6 rfl; have j7c := G0.c 7 rfl; have j7f := G0.f 7 rfl; have jlt := G0.lt)) | (have T1 : ArgsB w w3 [[.int .u64 (ww3 x), .int .u64 (ww2 x), .int .u64 (ww1 x), .int .u64 (ww0 x)], [.int .u64 (ww3 y), .int .u64 (ww2 y), .int .u64 (ww1 y), .int .u64 (ww0 y)], [.int .u64 (ww3 z), .int .u64 (ww2 z), .int .u64 (ww1 z), .int .u64 (ww0 z)]] := (by with_reducible exact (T0.alloc _).drew.step hB); have tltw3 := (T0.b 2 rfl).lt; have lR0w3 := R0.lt; replace R0 := (R0.alloc _).drew.step hB; (have G0 := (Blk.new _ [.int .u64 0, .int .u64 0, .int .u64 0, .int .u64 0, .int .u64 0, .int .u64 0, .int .u64 0, .int .u64 0] _ rfl).drew.step hB; have j0c := G0.c 0 rfl; have j0f := G0.f 0 rfl; have j1c := G0.c 1 rfl; have j1f := G0.f 1 rfl; have j2c := G0.c 2 rfl; have j2f := G0.f 2 rfl; have j3c := G0.c 3 rfl; have j3f := G0.f 3 rfl; have j4c := G0.c 4 rfl; have j4f := G0.f 4 rfl; have j5c := G0.c 5 rfl; have j5f := G0.f 5 rfl; have j6c := G0.c 6 rfl; have j6f := G0.f 6 rfl; have j7c := G0.c 7 rfl; have j7f := G0.f 7 rfl; have jlt := G0.lt))); clear T0; have T0 := T1; clear T1; clear hB; clear tok2 _t)
        | (go_at_call 139; refine (B2 _).mono ?_; rintro e w4 ⟨rfl, hB⟩; (first | (have T1 : ArgsB w w4 [[.int .u64 (ww3 x), .int .u64 (ww2 x), .int .u64 (ww1 x), .int .u64 (ww0 x)], [.int .u64 (ww3 y), .int .u64 (ww2 y), .int .u64 (ww1 y), .int .u64 (ww0 y)], [.int .u64 (ww3 z), .int .u64 (ww2 z), .int .u64 (ww1 z), .int .u64 (ww0 z)]] := (by with_reducible exact T0.step hB); have tltw4 := (T0.b 2 rfl).lt; have lR0w4 := R0.lt; replace R0 := R0.step hB; (try (replace G0 := G0.step hB; have j0c := G0.c 0 rfl; have j0f := G0.f 0 rfl; have j1c := G0.c 1 rfl; have j1f := G0.f 1 rfl; have j2c := G0.c 2 rfl; have j2f := G0.f 2 rfl; have j3c := G0.c 3 rfl; have j3f := G0.f 3 rfl; have j4c := G0.c 4 rfl; have j4f := G0.f 4 rfl; have j5c := G0.c 5 rfl; have j5f := G0.f 5 rfl; have j6c := G0.c 6 rfl; have j6f := G0.f 6 rfl; have j7c := G0.c 7 rfl; have j7f := G0.f 7 rfl; have jlt := G0.lt))) | (have T1 : ArgsB w w4 [[.int .u64 (ww3 x), .int .u64 (ww2 x), .int .u64 (ww1 x), .int .u64 (ww0 x)], [.int .u64 (ww3 y), .int .u64 (ww2 y), .int .u64 (ww1 y), .int .u64 (ww0 y)], [.int .u64 (ww3 z), .int .u64 (ww2 z), .int .u64 (ww1 z), .int .u64 (ww0 z)]] := (by with_reducible exact T0.drew.step hB); have tltw4 := (T0.b 2 rfl).lt; have lR0w4 := R0.lt; replace R0 := R0.drew.step hB; (try (replace G0 := G0.drew.step hB; have j0c := G0.c 0 rfl; have j0f := G0.f 0 rfl; have j1c := G0.c 1 rfl; have j1f := G0.f 1 rfl; have j2c := G0.c 2 rfl; have j2f := G0.f 2 rfl; have j3c := G0.c 3 rfl; have j3f := G0.f 3 rfl; have j4c := G0.c 4 rfl; have j4f := G0.f 4 rfl; have j5c := G0.c 5 rfl; have j5f := G0.f 5 rfl; have j6c := G0.c 6 rfl; have j6f := G0.f 6 rfl; have j7c := G0.c 7 rfl; have j7f := G0.f 7 rfl; have jlt := G0.lt))) | (have T1 : ArgsB w w4 [[.int .u64 (ww3 x), .int .u64 (ww2 x), .int .u64 (ww1 x), .int .u64 (ww0 x)], [.int .u64 (ww3 y), .int .u64 (ww2 y), .int .u64 (ww1 y), .int .u64 (ww0 y)], [.int .u64 (ww3 z), .int .u64 (ww2 z), .int .u64 (ww1 z), .int .u64 (ww0 z)]] := (by with_reducible exact (T0.alloc _).step hB); have tltw4 := (T0.b 2 rfl).lt; have lR0w4 := R0.lt; replace R0 := (R0.alloc _).step hB; (have G0 := (Blk.new _ [.int .u64 0, .int .u64 0, .int .u64 0, .int .u64 0, .int .u64 0, .int .u64 0, .int .u64 0, .int .u64 0] _ rfl).step hB; have j0c := G0.c 0 rfl; have j0f := G0.f 0 rfl; have j1c := G0.c 1 rfl; have j1f := G0.f 1 rfl; have j2c := G0.c 2 rfl; have j2f := G0.f 2 rfl; have j3c := G0.c 3 rfl; have j3f := G0.f 3 rfl; have j4c := G0.c 4 rfl; have j4f := G0.f 4 rfl; have j5c := G0.c 5 rfl; have j5f := G0.f 5 rfl; have j6c := G0.c 6 rfl; have j6f := G0.f 6 rfl; have j7c := G0.c 7 rfl; have j7f := G0.f 7 rfl; have jlt := G0.lt)) | (have T1 : ArgsB w w4 [[.int .u64 (ww3 x), .int .u64 (ww2 x), .int .u64 (ww1 x), .int .u64 (ww0 x)], [.int .u64 (ww3 y), .int .u64 (ww2 y), .int .u64 (ww1 y), .int .u64 (ww0 y)], [.int .u64 (ww3 z), .int .u64 (ww2 z), .int .u64 (ww1 z), .int .u64 (ww0 z)]] := (by with_reducible exact (T0.alloc _).drew.step hB); have tltw4 := (T0.b 2 rfl).lt; have lR0w4 := R0.lt; replace R0 := (R0.alloc _).drew.step hB; (have G0 := (Blk.new _ [.int .u64 0, .int .u64 0, .int .u64 0, .int .u64 0, .int .u64 0, .int .u64 0, .int .u64 0, .int .u64 0] _ rfl).drew.step hB; have j0c := G0.c 0 rfl; have j0f := G0.f 0 rfl; have j1c := G0.c 1 rfl; have j1f := G0.f 1 rfl; have j2c := G0.c 2 rfl; have j2f := G0.f 2 rfl; have j3c := G0.c 3 rfl; have j3f := G0.f 3 rfl; have j4c := G0.c 4 rfl; have j4f := G0.f 4 rfl; have j5c := G0.c 5 rfl; have j5f := G0.f 5 rfl; have j6c := G0.c 6 rfl; have j6f := G0.f 6 rfl; have j7c := G0.c 7 rfl; have j7f := G0.f 7 rfl; have jlt := G0.lt))); clear T0; have T0 := T1; clear T1; clear hB)
        | (go_at_call 137; refine (C1 _).mono ?_; rintro e w5 ⟨rfl, hB⟩; (first | (have T1 : ArgsB w w5 [[.int .u64 (ww3 x), .int .u64 (ww2 x), .int .u64 (ww1 x), .int .u64 (ww0 x)], [.int .u64 (ww3 y), .int .u64 (ww2 y), .int .u64 (ww1 y), .int .u64 (ww0 y)], [.int .u64 (ww3 z), .int .u64 (ww2 z), .int .u64 (ww1 z), .int .u64 (ww0 z)]] := (by with_reducible exact T0.step hB); have tltw5 := (T0.b 2 rfl).lt; have lR0w5 := R0.lt; replace R0 := R0.step hB; (try (replace G0 := G0.step hB; have j0c := G0.c 0 rfl; have j0f := G0.f 0 rfl; have j1c := G0.c 1 rfl; have j1f := G0.f 1 rfl; have j2c := G0.c 2 rfl; have j2f := G0.f 2 rfl; have j3c := G0.c 3 rfl; have j3f := G0.f 3 rfl; have j4c := G0.c 4 rfl; have j4f := G0.f 4 rfl; have j5c := G0.c 5 rfl; have j5f := G0.f 5 rfl; have j6c := G0.c 6 rfl; have j6f := G0.f 6 rfl; have j7c := G0.c 7 rfl; have j7f := G0.f 7 rfl; have jlt := G0.lt))) | (have T1 : ArgsB w w5 [[.int .u64 (ww3 x), .int .u64 (ww2 x), .int .u64 (ww1 x), .int .u64 (ww0 x)], [.int .u64 (ww3 y), .int .u64 (ww2 y), .int .u64 (ww1 y), .int .u64 (ww0 y)], [.int .u64 (ww3 z), .int .u64 (ww2 z), .int .u64 (ww1 z), .int .u64 (ww0 z)]] := (by with_reducible exact T0.drew.step hB); have tltw5 := (T0.b 2 rfl).lt; have lR0w5 := R0.lt; replace R0 := R0.drew.step hB; (try (replace G0 := G0.drew.step hB; have j0c := G0.c 0 rfl; have j0f := G0.f 0 rfl; have j1c := G0.c 1 rfl; have j1f := G0.f 1 rfl; have j2c := G0.c 2 rfl; have j2f := G0.f 2 rfl; have j3c := G0.c 3 rfl; have j3f := G0.f 3 rfl; have j4c := G0.c 4 rfl; have j4f := G0.f 4 rfl; have j5c := G0.c 5 rfl; have j5f := G0.f 5 rfl; have j6c := G0.c 6 rfl; have j6f := G0.f 6 rfl; have j7c := G0.c 7 rfl; have j7f := G0.f 7 rfl; have jlt := G0.lt))) | (have T1 : ArgsB w w5 [[.int .u64 (ww3 x), .int .u64 (ww2 x), .int .u64 (ww1 x), .int .u64 (ww0 x)], [.int .u64 (ww3 y), .int .u64 (ww2 y), .int .u64 (ww1 y), .int .u64 (ww0 y)], [.int .u64 (ww3 z), .int .u64 (ww2 z), .int .u64 (ww1 z), .int .u64 (ww0 z)]] := (by with_reducible exact (T0.alloc _).step hB); have tltw5 := (T0.b 2 rfl).lt; have lR0w5 := R0.lt; replace R0 := (R0.alloc _).step hB; (have G0 := (Blk.new _ [.int .u64 0, .int .u64 0, .int .u64 0, .int .u64 0, .int .u64 0, .int .u64 0, .int .u64 0, .int .u64 0] _ rfl).step hB; have j0c := G0.c 0 rfl; have j0f := G0.f 0 rfl; have j1c := G0.c 1 rfl; have j1f := G0.f 1 rfl; have j2c := G0.c 2 rfl; have j2f := G0.f 2 rfl; have j3c := G0.c 3 rfl; have j3f := G0.f 3 rfl; have j4c := G0.c 4 rfl; have j4f := G0.f 4 rfl; have j5c := G0.c 5 rfl; have j5f := G0.f 5 rfl; have j6c := G0.c 6 rfl; have j6f := G0.f 6 rfl; have j7c := G0.c 7 rfl; have j7f := G0.f 7 rfl; have jlt := G0.lt)) | (have T1 : ArgsB w w5 [[.int .u64 (ww3 x), .int .u64 (ww2 x), .int .u64 (ww1 x), .int .u64 (ww0 x)], [.int .u64 (ww3 y), .int .u64 (ww2 y), .int .u64 (ww1 y), .int .u64 (ww0 y)], [.int .u64 (ww3 z), .int .u64 (ww2 z), .int .u64 (ww1 z), .int .u64 (ww0 z)]] := (by with_reducible exact (T0.alloc _).drew.step hB); have tltw5 := (T0.b 2 rfl).lt; have lR0w5 := R0.lt; replace R0 := (R0.alloc _).drew.step hB; (have G0 := (Blk.new _ [.int .u64 0, .int .u64 0, .int .u64 0, .int .u64 0, .int .u64 0, .int .u64 0, .int .u64 0, .int .u64 0] _ rfl).drew.step hB; have j0c := G0.c 0 rfl; have j0f := G0.f 0 rfl; have j1c := G0.c 1 rfl; have j1f := G0.f 1 rfl; have j2c := G0.c 2 rfl; have j2f := G0.f 2 rfl; have j3c := G0.c 3 rfl; have j3f := G0.f 3 rfl; have j4c := G0.c 4 rfl; have j4f := G0.f 4 rfl; have j5c := G0.c 5 rfl; have j5f := G0.f 5 rfl; have j6c := G0.c 6 rfl; have j6f := G0.f 6 rfl; have j7c := G0.c 7 rfl; have j7f := G0.f 7 rfl; have jlt := G0.lt))); clear T0; have T0 := T1; clear T1; clear hB))
    all_goals go_wp2_with fail
    all_goals go_meet
    all_goals have hl : w.heap.size + ([[.int .u64 (ww3 x), .int .u64 (ww2 x), .int .u64 (ww1 x), .int .u64 (ww0 x)], [.int .u64 (ww3 y), .int .u64 (ww2 y), .int .u64 (ww1 y), .int .u64 (ww0 y)], [.int .u64 (ww3 z), .int .u64 (ww2 z), .int .u64 (ww1 z), .int .u64 (ww0 z)]] : List (List Value)).length ≤ w5.heap.size := (T0.b 2 rfl).lt
    all_goals have hr := R0.lt
    all_goals first | (with_reducible exact cut3_new T0 hl R0) | (with_reducible exact cut3_set8 T0 G0 (by simp; omega) R0 (by omega))
  case rest =>
    clear T0 R0 tok1 tok2 A1 A2 B1 B2 C1 hlw hlt
    obtain ⟨⟨gc, hp, hgc, T0, GC⟩, R0, hne⟩ := hcut
    subst hp
    simp at hgc hne
    go_upto_region 2 with fail
    go_region_held3 (fun w' => w'.cell? ⟨w.heap.size + 1, 0, none⟩ = some (.int .u64 (ww3 y)) ∧ w'.cell? ⟨w.heap.size + 1, 1, none⟩ = some (.int .u64 (ww2 y)) ∧ w'.cell? ⟨w.heap.size + 1, 2, none⟩ = some (.int .u64 (ww1 y)) ∧ w'.cell? ⟨w.heap.size + 1, 3, none⟩ = some (.int .u64 (ww0 y)) ∧ w'.cell? ⟨gc, 0, none⟩ = some (.int .u64 (lw0 g)) ∧ w'.cell? ⟨gc, 1, none⟩ = some (.int .u64 (lw1 g)) ∧ w'.cell? ⟨gc, 2, none⟩ = some (.int .u64 (lw2 g)) ∧ w'.cell? ⟨gc, 3, none⟩ = some (.int .u64 (lw3 g)) ∧ w'.cell? ⟨gc, 4, none⟩ = some (.int .u64 (lw4 g)) ∧ w'.cell? ⟨gc, 5, none⟩ = some (.int .u64 (lw5 g)) ∧ w'.cell? ⟨gc, 6, none⟩ = some (.int .u64 (lw6 g)) ∧ w'.cell? ⟨gc, 7, none⟩ = some (.int .u64 (lw7 g))) ((refine c3_cells2 (x := x) (z := z) ?_ ?_ <;> repeat (first | (with_reducible exact T0) | (with_reducible exact GC) | (with_reducible refine ArgsB.drew ?_) | (with_reducible refine Blk.drew ?_) | (with_reducible refine ArgsB.set8g ?_ (by simp; try omega) _ _ _ _ _ _ _ _) | (with_reducible refine Blk.set8 ?_ (by omega)))))
      (first
        | (go_at_call 138; refine (A3 _).mono ?_; rintro e w1 ⟨rfl, hB⟩; (first | (have T1 : ArgsB w w1 [[.int .u64 (ww3 x), .int .u64 (ww2 x), .int .u64 (ww1 x), .int .u64 (ww0 x)], [.int .u64 (ww3 y), .int .u64 (ww2 y), .int .u64 (ww1 y), .int .u64 (ww0 y)], [.int .u64 (ww3 z), .int .u64 (ww2 z), .int .u64 (ww1 z), .int .u64 (ww0 z)]] := (by with_reducible exact T0.step hB); have tltw1 := (T0.b 2 rfl).lt; have lR0w1 := R0.lt; replace R0 := R0.step hB; have lGCw1 := GC.lt; replace GC := GC.step hB; skip) | (have T1 : ArgsB w w1 [[.int .u64 (ww3 x), .int .u64 (ww2 x), .int .u64 (ww1 x), .int .u64 (ww0 x)], [.int .u64 (ww3 y), .int .u64 (ww2 y), .int .u64 (ww1 y), .int .u64 (ww0 y)], [.int .u64 (ww3 z), .int .u64 (ww2 z), .int .u64 (ww1 z), .int .u64 (ww0 z)]] := (by with_reducible exact T0.drew.step hB); have tltw1 := (T0.b 2 rfl).lt; have lR0w1 := R0.lt; replace R0 := R0.drew.step hB; have lGCw1 := GC.lt; replace GC := GC.drew.step hB; skip)); clear T0; have T0 := T1; clear T1; clear hB)
        | (go_at_call 139; refine (B3 _).mono ?_; rintro e w2 ⟨rfl, hB⟩; (first | (have T1 : ArgsB w w2 [[.int .u64 (ww3 x), .int .u64 (ww2 x), .int .u64 (ww1 x), .int .u64 (ww0 x)], [.int .u64 (ww3 y), .int .u64 (ww2 y), .int .u64 (ww1 y), .int .u64 (ww0 y)], [.int .u64 (ww3 z), .int .u64 (ww2 z), .int .u64 (ww1 z), .int .u64 (ww0 z)]] := (by with_reducible exact T0.step hB); have tltw2 := (T0.b 2 rfl).lt; have lR0w2 := R0.lt; replace R0 := R0.step hB; have lGCw2 := GC.lt; replace GC := GC.step hB; skip) | (have T1 : ArgsB w w2 [[.int .u64 (ww3 x), .int .u64 (ww2 x), .int .u64 (ww1 x), .int .u64 (ww0 x)], [.int .u64 (ww3 y), .int .u64 (ww2 y), .int .u64 (ww1 y), .int .u64 (ww0 y)], [.int .u64 (ww3 z), .int .u64 (ww2 z), .int .u64 (ww1 z), .int .u64 (ww0 z)]] := (by with_reducible exact T0.drew.step hB); have tltw2 := (T0.b 2 rfl).lt; have lR0w2 := R0.lt; replace R0 := R0.drew.step hB; have lGCw2 := GC.lt; replace GC := GC.drew.step hB; skip)); clear T0; have T0 := T1; clear T1; clear hB)
        | (go_at_call 137; refine (C2 _).mono ?_; rintro e w3 ⟨rfl, hB⟩; (first | (have T1 : ArgsB w w3 [[.int .u64 (ww3 x), .int .u64 (ww2 x), .int .u64 (ww1 x), .int .u64 (ww0 x)], [.int .u64 (ww3 y), .int .u64 (ww2 y), .int .u64 (ww1 y), .int .u64 (ww0 y)], [.int .u64 (ww3 z), .int .u64 (ww2 z), .int .u64 (ww1 z), .int .u64 (ww0 z)]] := (by with_reducible exact T0.step hB); have tltw3 := (T0.b 2 rfl).lt; have lR0w3 := R0.lt; replace R0 := R0.step hB; have lGCw3 := GC.lt; replace GC := GC.step hB; skip) | (have T1 : ArgsB w w3 [[.int .u64 (ww3 x), .int .u64 (ww2 x), .int .u64 (ww1 x), .int .u64 (ww0 x)], [.int .u64 (ww3 y), .int .u64 (ww2 y), .int .u64 (ww1 y), .int .u64 (ww0 y)], [.int .u64 (ww3 z), .int .u64 (ww2 z), .int .u64 (ww1 z), .int .u64 (ww0 z)]] := (by with_reducible exact T0.drew.step hB); have tltw3 := (T0.b 2 rfl).lt; have lR0w3 := R0.lt; replace R0 := R0.drew.step hB; have lGCw3 := GC.lt; replace GC := GC.drew.step hB; skip)); clear T0; have T0 := T1; clear T1; clear hB; have rc0 := R0.c 0 rfl; have rf0 := R0.f 0 rfl; have rc1 := R0.c 1 rfl; have rf1 := R0.f 1 rfl; have rc2 := R0.c 2 rfl; have rf2 := R0.f 2 rfl; have rc3 := R0.c 3 rfl; have rf3 := R0.f 3 rfl; have rc4 := R0.c 4 rfl; have rf4 := R0.f 4 rfl; have rc5 := R0.c 5 rfl; have rf5 := R0.f 5 rfl; have rc6 := R0.c 6 rfl; have rf6 := R0.f 6 rfl; have rc7 := R0.c 7 rfl; have rf7 := R0.f 7 rfl; have rl := R0.lt))
    all_goals have HB := T0.below
    all_goals clear T0 GC R0
    all_goals go_wp2
    all_goals refine bodyPost_ret (v := LV q) (by simp [results, Try.results108, go_sem, rc0, rc1, rc2, rc3, rc4, rc5, rc6, rc7]) rfl ?_
    all_goals exact ⟨rfl, by first | exact below_set8 (g := w.heap.size + 3) (by omega) HB | exact (below_set8 (g := w.heap.size + 3) (by omega) HB).drew⟩
end Go.Proofs.Ytggfhpnflknhdaa

/- Points: whether one is right, by the program. -/
namespace Go.Proofs.Ytggfhpnflknhdaa
open Go.RowKit
abbrev PV (x y z : Int) : Value := .agg #[.int .u64 (ww3 x), .int .u64 (ww2 x), .int .u64 (ww1 x), .int .u64 (ww0 x), .int .u64 (ww3 y), .int .u64 (ww2 y), .int .u64 (ww1 y), .int .u64 (ww0 y), .int .u64 (ww3 z), .int .u64 (ww2 z), .int .u64 (ww1 z), .int .u64 (ww0 z)]
/-- Whether the point is right. -/
def ptB (x y z : Int) : Bool := decide (0 < z) && (small x && small y && small z) && decide (Int.gcd (Int.gcd x y) z = 1)
theorem gcd_three (x y z : Int) : Int.gcd (y.natAbs : Int) (Int.gcd (x.natAbs : Int) (z.natAbs : Int) : Int) = Int.gcd (Int.gcd x y) z := by
  rw [Int.gcd_natCast_natCast, Int.gcd_natCast_natCast]
  unfold Int.gcd
  rw [Int.natAbs_natCast, Nat.gcd_comm x.natAbs z.natAbs, ← Nat.gcd_assoc, Nat.gcd_comm (Nat.gcd y.natAbs z.natAbs), ← Nat.gcd_assoc]
set_option maxRecDepth 100000 in
set_option maxHeartbeats 2000000 in
theorem pright_det (x y z : Int) (hx : told x = true) (hy : told y = true) (hz : told z = true) (w : World) : Calls Try.prog 63 #[PV x y z] w (VP (.bool (ptB x y z)) w) := by
  have X0 : Blk (w.alloc (.cells #[.int .u64 (ww3 x), .int .u64 (ww2 x), .int .u64 (ww1 x), .int .u64 (ww0 x), .int .u64 (ww3 y), .int .u64 (ww2 y), .int .u64 (ww1 y), .int .u64 (ww0 y), .int .u64 (ww3 z), .int .u64 (ww2 z), .int .u64 (ww1 z), .int .u64 (ww0 z)] 30)) w.heap.size [.int .u64 (ww3 x), .int .u64 (ww2 x), .int .u64 (ww1 x), .int .u64 (ww0 x), .int .u64 (ww3 y), .int .u64 (ww2 y), .int .u64 (ww1 y), .int .u64 (ww0 y), .int .u64 (ww3 z), .int .u64 (ww2 z), .int .u64 (ww1 z), .int .u64 (ww0 z)] := Blk.new w _ _ rfl
  have HB := (Below.refl _ w).alloc (Nat.le_refl _) (.cells #[.int .u64 (ww3 x), .int .u64 (ww2 x), .int .u64 (ww1 x), .int .u64 (ww0 x), .int .u64 (ww3 y), .int .u64 (ww2 y), .int .u64 (ww1 y), .int .u64 (ww0 y), .int .u64 (ww3 z), .int .u64 (ww2 z), .int .u64 (ww1 z), .int .u64 (ww0 z)] 30)
  have SG := sign_det z hz
  have P1 := isPart_det x hx
  have P2 := isPart_det y hy
  have P3 := isPart_det z hz
  have CM := common3_det x y z hx hy hz
  rw [gcd_three] at CM
  have hl : LR (Int.gcd (Int.gcd x y) z : Int) := by
    have tx := told_abs hx; have ty := told_abs hy; have tz := told_abs hz
    have g1 := gcd_le x.natAbs y.natAbs 57896044618658097711785492504343953926634992332820282019728792003956564819968 (by omega) (by omega)
    rw [show Int.gcd (x.natAbs : Int) (y.natAbs : Int) = Int.gcd x y by simp [Int.gcd]] at g1
    have g2 := gcd_le (Int.gcd x y) z.natAbs 57896044618658097711785492504343953926634992332820282019728792003956564819968 (by omega) (by omega)
    rw [show Int.gcd ((Int.gcd x y : Nat) : Int) (z.natAbs : Int) = Int.gcd (Int.gcd x y) z by simp [Int.gcd]] at g2
    unfold LR
    omega
  have EO := eqLVOne _ hl
  obtain ⟨G, hG⟩ : ∃ G, decide (((Int.gcd (Int.gcd x y) z : Nat) : Int) = 1) = G := ⟨_, rfl⟩
  simp only [hG] at EO
  have HG : Hid (G = decide (Int.gcd (Int.gcd x y) z = 1)) := by
    show _ = _
    rw [← hG, Bool.eq_iff_iff, decide_eq_true_iff, decide_eq_true_iff]
    omega
  clear hG hl hx hy hz
  generalize ((Int.gcd (Int.gcd x y) z : Nat) : Int) = g at *
  have hm1 : ((-1 : Int) == 1) = false := by decide
  have hm0 : ((0 : Int) == 1) = false := by decide
  go_enter Try.func63, Try.ntmps63
  have HG' := HG
  clear HG
  have q0 := X0.c 0 rfl; have q1 := X0.c 1 rfl; have q2 := X0.c 2 rfl; have q3 := X0.c 3 rfl; have q4 := X0.c 4 rfl; have q5 := X0.c 5 rfl; have q6 := X0.c 6 rfl; have q7 := X0.c 7 rfl; have q8 := X0.c 8 rfl; have q9 := X0.c 9 rfl; have q10 := X0.c 10 rfl; have q11 := X0.c 11 rfl
  go_wp2_with fail
  refine (SG _).mono ?_
  rintro e w1 ⟨rfl, hB⟩
  replace X0 := X0.step hB; replace HB := HB.trans (hB.mono HB.size); clear hB; clear q0 q1 q2 q3 q4 q5 q6 q7 q8 q9 q10 q11; have q0 := X0.c 0 rfl; have q1 := X0.c 1 rfl; have q2 := X0.c 2 rfl; have q3 := X0.c 3 rfl; have q4 := X0.c 4 rfl; have q5 := X0.c 5 rfl; have q6 := X0.c 6 rfl; have q7 := X0.c 7 rfl; have q8 := X0.c 8 rfl; have q9 := X0.c 9 rfl; have q10 := X0.c 10 rfl; have q11 := X0.c 11 rfl
  by_cases hs : 0 < z
  · rw [cmpI_gt hs]
    go_wp2_with fail
    refine (P1 _).mono ?_
    rintro e w2 ⟨rfl, hB⟩
    replace X0 := X0.step hB; replace HB := HB.trans (hB.mono HB.size); clear hB; clear q0 q1 q2 q3 q4 q5 q6 q7 q8 q9 q10 q11; have q0 := X0.c 0 rfl; have q1 := X0.c 1 rfl; have q2 := X0.c 2 rfl; have q3 := X0.c 3 rfl; have q4 := X0.c 4 rfl; have q5 := X0.c 5 rfl; have q6 := X0.c 6 rfl; have q7 := X0.c 7 rfl; have q8 := X0.c 8 rfl; have q9 := X0.c 9 rfl; have q10 := X0.c 10 rfl; have q11 := X0.c 11 rfl
    by_cases h1 : small x = true
    · rw [h1]
      go_wp2_with fail
      refine (P2 _).mono ?_
      rintro e w3 ⟨rfl, hB⟩
      replace X0 := X0.step hB; replace HB := HB.trans (hB.mono HB.size); clear hB; clear q0 q1 q2 q3 q4 q5 q6 q7 q8 q9 q10 q11; have q0 := X0.c 0 rfl; have q1 := X0.c 1 rfl; have q2 := X0.c 2 rfl; have q3 := X0.c 3 rfl; have q4 := X0.c 4 rfl; have q5 := X0.c 5 rfl; have q6 := X0.c 6 rfl; have q7 := X0.c 7 rfl; have q8 := X0.c 8 rfl; have q9 := X0.c 9 rfl; have q10 := X0.c 10 rfl; have q11 := X0.c 11 rfl
      by_cases h2 : small y = true
      · rw [h2]
        go_wp2_with fail
        refine (P3 _).mono ?_
        rintro e w4 ⟨rfl, hB⟩
        replace X0 := X0.step hB; replace HB := HB.trans (hB.mono HB.size); clear hB; clear q0 q1 q2 q3 q4 q5 q6 q7 q8 q9 q10 q11; have q0 := X0.c 0 rfl; have q1 := X0.c 1 rfl; have q2 := X0.c 2 rfl; have q3 := X0.c 3 rfl; have q4 := X0.c 4 rfl; have q5 := X0.c 5 rfl; have q6 := X0.c 6 rfl; have q7 := X0.c 7 rfl; have q8 := X0.c 8 rfl; have q9 := X0.c 9 rfl; have q10 := X0.c 10 rfl; have q11 := X0.c 11 rfl
        by_cases h3 : small z = true
        · rw [h3]
          go_wp2_with fail
          refine (CM _).mono ?_
          rintro e w5 ⟨rfl, hB⟩
          replace X0 := X0.step hB; replace HB := HB.trans (hB.mono HB.size); clear hB; clear q0 q1 q2 q3 q4 q5 q6 q7 q8 q9 q10 q11; have q0 := X0.c 0 rfl; have q1 := X0.c 1 rfl; have q2 := X0.c 2 rfl; have q3 := X0.c 3 rfl; have q4 := X0.c 4 rfl; have q5 := X0.c 5 rfl; have q6 := X0.c 6 rfl; have q7 := X0.c 7 rfl; have q8 := X0.c 8 rfl; have q9 := X0.c 9 rfl; have q10 := X0.c 10 rfl; have q11 := X0.c 11 rfl
          have HR : Hid (ptB x y z = G) := by show _ = _; unfold ptB; rw [HG'.out, h1, h2, h3]; simp [hs]
          clear HG' h1 h2 h3 hs X0 q0 q1 q2 q3 q4 q5 q6 q7 q8 q9 q10 q11
          go_wp2
          go_ret
          exact ⟨by simp [HR.out], HB⟩
        · replace h3 := Bool.eq_false_iff.2 h3
          rw [h3]
          have HR : Hid (ptB x y z = false) := by show _ = _; unfold ptB; simp [h3]
          clear HG' h1 h2 h3 hs X0 q0 q1 q2 q3 q4 q5 q6 q7 q8 q9 q10 q11
          go_wp2
          go_ret
          exact ⟨by rw [HR.out]; rfl, HB⟩
      · replace h2 := Bool.eq_false_iff.2 h2
        rw [h2]
        have HR : Hid (ptB x y z = false) := by show _ = _; unfold ptB; simp [h2]
        clear HG' h1 h2 hs X0 q0 q1 q2 q3 q4 q5 q6 q7 q8 q9 q10 q11
        go_wp2
        go_ret
        exact ⟨by rw [HR.out]; rfl, HB⟩
    · replace h1 := Bool.eq_false_iff.2 h1
      rw [h1]
      have HR : Hid (ptB x y z = false) := by show _ = _; unfold ptB; simp [h1]
      clear HG' h1 hs X0 q0 q1 q2 q3 q4 q5 q6 q7 q8 q9 q10 q11
      go_wp2
      go_ret
      exact ⟨by rw [HR.out]; rfl, HB⟩
  · have HR : Hid (ptB x y z = false) := by show _ = _; unfold ptB; simp [hs]
    have hcs : cmpI z 0 = -1 ∨ cmpI z 0 = 0 := by
      rcases Int.lt_trichotomy z 0 with h | h | h
      · exact Or.inl (cmpI_lt h)
      · exact Or.inr (cmpI_eq h)
      · exact absurd h hs
    clear HG' hs X0 q0 q1 q2 q3 q4 q5 q6 q7 q8 q9 q10 q11
    rcases hcs with hc | hc
    · rw [hc]
      go_wp2
      go_ret
      exact ⟨by rw [HR.out]; rfl, HB⟩
    · rw [hc]
      go_wp2
      go_ret
      exact ⟨by rw [HR.out]; rfl, HB⟩
end Go.Proofs.Ytggfhpnflknhdaa

/- How a value of four words reads as data: opened and shut. -/
namespace Go.Proofs.Ytggfhpnflknhdaa
open Go.ChangeShapes Go.WideShapes Go.ChangeAt Go.RowKit Go.Joins
theorem Try.own : ownKnob Try.prog.godebug = none := by kernel_rfl
theorem Try.cells28 : Try.prog.cellsOf 96 = 4 := by kernel_rfl
theorem word_of_wf {x : Int} (h : (Lit.int .u64 x).wf = true) : Word x := by
  simp [Lit.wf, IntKind.min, IntKind.max, IntKind.signed, IntKind.bits] at h
  exact ⟨by omega, by omega⟩
end Go.Proofs.Ytggfhpnflknhdaa

/- Points: the law's own copy of one, and how one reads as data. -/
namespace Go.Proofs.Ytggfhpnflknhdaa
open Go.ChangeShapes Go.WideShapes Go.ChangeAt Go.RowKit Go.Joins
theorem toWide_det (x : Int) (w : World) : Calls Try.prog 134 #[W4 x] w (VP (W4 x) w) := toWide_any _ _ _ _ w
set_option maxRecDepth 100000 in
set_option maxHeartbeats 2000000 in
theorem toPoint_det (x y z : Int) (w : World) : Calls Try.prog 104 #[PV x y z] w (VP (PV x y z) w) := by
  have T5 : ArgsB w (((w.alloc (.cells #[.int .u64 (ww3 x), .int .u64 (ww2 x), .int .u64 (ww1 x), .int .u64 (ww0 x), .int .u64 (ww3 y), .int .u64 (ww2 y), .int .u64 (ww1 y), .int .u64 (ww0 y), .int .u64 (ww3 z), .int .u64 (ww2 z), .int .u64 (ww1 z), .int .u64 (ww0 z)] 98)).alloc (.cells #[.int .u64 0, .int .u64 0, .int .u64 0, .int .u64 0, .int .u64 0, .int .u64 0, .int .u64 0, .int .u64 0, .int .u64 0, .int .u64 0, .int .u64 0, .int .u64 0] 30)).alloc (.cells #[.int .u64 0, .int .u64 0, .int .u64 0, .int .u64 0, .int .u64 0, .int .u64 0, .int .u64 0, .int .u64 0, .int .u64 0, .int .u64 0, .int .u64 0, .int .u64 0] 30)) [[.int .u64 (ww3 x), .int .u64 (ww2 x), .int .u64 (ww1 x), .int .u64 (ww0 x), .int .u64 (ww3 y), .int .u64 (ww2 y), .int .u64 (ww1 y), .int .u64 (ww0 y), .int .u64 (ww3 z), .int .u64 (ww2 z), .int .u64 (ww1 z), .int .u64 (ww0 z)], [.int .u64 0, .int .u64 0, .int .u64 0, .int .u64 0, .int .u64 0, .int .u64 0, .int .u64 0, .int .u64 0, .int .u64 0, .int .u64 0, .int .u64 0, .int .u64 0], [.int .u64 0, .int .u64 0, .int .u64 0, .int .u64 0, .int .u64 0, .int .u64 0, .int .u64 0, .int .u64 0, .int .u64 0, .int .u64 0, .int .u64 0, .int .u64 0]] := ar3 _ _ _ _ _ _ w
  have X0 : Blk _ w.heap.size _ := T5.b 0 rfl; have R0 : Blk _ (w.heap.size + 1) _ := T5.b 1 rfl; have O0 : Blk _ (w.heap.size + 1 + 1) _ := T5.b 2 rfl
  have HB := T5.below
  clear T5
  go_enter Try.func104, Try.ntmps104
  go_wp2_with fail
  refine (toWide_det x _).mono ?_
  rintro e w1 ⟨rfl, hB⟩
  replace X0 := X0.step hB; replace R0 := R0.step hB; replace O0 := O0.step hB; replace HB := HB.trans (hB.mono HB.size)
  clear hB
  have xc4 := X0.c 4 rfl; have xc5 := X0.c 5 rfl; have xc6 := X0.c 6 rfl; have xc7 := X0.c 7 rfl; have xl := X0.lt; have oc0 := O0.c 0 rfl; have of0 := O0.f 0 rfl; have oc1 := O0.c 1 rfl; have of1 := O0.f 1 rfl; have oc2 := O0.c 2 rfl; have of2 := O0.f 2 rfl; have oc3 := O0.c 3 rfl; have of3 := O0.f 3 rfl; have ol := O0.lt
  go_wp2_with fail
  clear xc4 xc5 xc6 xc7 xl oc0 of0 oc1 of1 oc2 of2 oc3 of3 ol
  replace X0 : Blk ((((w1.setCell ⟨w.heap.size + 1 + 1, 0, none⟩ (.int .u64 (ww3 x))).setCell ⟨w.heap.size + 1 + 1, 1, none⟩ (.int .u64 (ww2 x))).setCell ⟨w.heap.size + 1 + 1, 2, none⟩ (.int .u64 (ww1 x))).setCell ⟨w.heap.size + 1 + 1, 3, none⟩ (.int .u64 (ww0 x))) w.heap.size _ := (((X0.setO (by show w.heap.size ≠ w.heap.size + 1 + 1; omega) _).setO (by show w.heap.size ≠ w.heap.size + 1 + 1; omega) _).setO (by show w.heap.size ≠ w.heap.size + 1 + 1; omega) _).setO (by show w.heap.size ≠ w.heap.size + 1 + 1; omega) _
  replace R0 : Blk ((((w1.setCell ⟨w.heap.size + 1 + 1, 0, none⟩ (.int .u64 (ww3 x))).setCell ⟨w.heap.size + 1 + 1, 1, none⟩ (.int .u64 (ww2 x))).setCell ⟨w.heap.size + 1 + 1, 2, none⟩ (.int .u64 (ww1 x))).setCell ⟨w.heap.size + 1 + 1, 3, none⟩ (.int .u64 (ww0 x))) (w.heap.size + 1) _ := (((R0.setO (by show w.heap.size + 1 ≠ w.heap.size + 1 + 1; omega) _).setO (by show w.heap.size + 1 ≠ w.heap.size + 1 + 1; omega) _).setO (by show w.heap.size + 1 ≠ w.heap.size + 1 + 1; omega) _).setO (by show w.heap.size + 1 ≠ w.heap.size + 1 + 1; omega) _
  replace O0 := (((O0.setI 0 (by simp) (.int .u64 (ww3 x))).setI 1 (by simp) (.int .u64 (ww2 x))).setI 2 (by simp) (.int .u64 (ww1 x))).setI 3 (by simp) (.int .u64 (ww0 x))
  replace HB : Below w.heap.size w ((((w1.setCell ⟨w.heap.size + 1 + 1, 0, none⟩ (.int .u64 (ww3 x))).setCell ⟨w.heap.size + 1 + 1, 1, none⟩ (.int .u64 (ww2 x))).setCell ⟨w.heap.size + 1 + 1, 2, none⟩ (.int .u64 (ww1 x))).setCell ⟨w.heap.size + 1 + 1, 3, none⟩ (.int .u64 (ww0 x))) := (((HB.setCell (by show w.heap.size ≤ w.heap.size + 1 + 1; omega) _).setCell (by show w.heap.size ≤ w.heap.size + 1 + 1; omega) _).setCell (by show w.heap.size ≤ w.heap.size + 1 + 1; omega) _).setCell (by show w.heap.size ≤ w.heap.size + 1 + 1; omega) _
  generalize ((((w1.setCell ⟨w.heap.size + 1 + 1, 0, none⟩ (.int .u64 (ww3 x))).setCell ⟨w.heap.size + 1 + 1, 1, none⟩ (.int .u64 (ww2 x))).setCell ⟨w.heap.size + 1 + 1, 2, none⟩ (.int .u64 (ww1 x))).setCell ⟨w.heap.size + 1 + 1, 3, none⟩ (.int .u64 (ww0 x))) = W1 at *
  simp only [List.set_cons_zero, List.set_cons_succ] at O0
  refine (toWide_det y _).mono ?_
  rintro e w2 ⟨rfl, hB⟩
  replace X0 := X0.step hB; replace R0 := R0.step hB; replace O0 := O0.step hB; replace HB := HB.trans (hB.mono HB.size)
  clear hB
  have xc8 := X0.c 8 rfl; have xc9 := X0.c 9 rfl; have xc10 := X0.c 10 rfl; have xc11 := X0.c 11 rfl; have xl := X0.lt; have oc4 := O0.c 4 rfl; have of4 := O0.f 4 rfl; have oc5 := O0.c 5 rfl; have of5 := O0.f 5 rfl; have oc6 := O0.c 6 rfl; have of6 := O0.f 6 rfl; have oc7 := O0.c 7 rfl; have of7 := O0.f 7 rfl; have ol := O0.lt
  go_wp2_with fail
  clear xc8 xc9 xc10 xc11 xl oc4 of4 oc5 of5 oc6 of6 oc7 of7 ol
  replace X0 : Blk ((((w2.setCell ⟨w.heap.size + 1 + 1, 4, none⟩ (.int .u64 (ww3 y))).setCell ⟨w.heap.size + 1 + 1, 5, none⟩ (.int .u64 (ww2 y))).setCell ⟨w.heap.size + 1 + 1, 6, none⟩ (.int .u64 (ww1 y))).setCell ⟨w.heap.size + 1 + 1, 7, none⟩ (.int .u64 (ww0 y))) w.heap.size _ := (((X0.setO (by show w.heap.size ≠ w.heap.size + 1 + 1; omega) _).setO (by show w.heap.size ≠ w.heap.size + 1 + 1; omega) _).setO (by show w.heap.size ≠ w.heap.size + 1 + 1; omega) _).setO (by show w.heap.size ≠ w.heap.size + 1 + 1; omega) _
  replace R0 : Blk ((((w2.setCell ⟨w.heap.size + 1 + 1, 4, none⟩ (.int .u64 (ww3 y))).setCell ⟨w.heap.size + 1 + 1, 5, none⟩ (.int .u64 (ww2 y))).setCell ⟨w.heap.size + 1 + 1, 6, none⟩ (.int .u64 (ww1 y))).setCell ⟨w.heap.size + 1 + 1, 7, none⟩ (.int .u64 (ww0 y))) (w.heap.size + 1) _ := (((R0.setO (by show w.heap.size + 1 ≠ w.heap.size + 1 + 1; omega) _).setO (by show w.heap.size + 1 ≠ w.heap.size + 1 + 1; omega) _).setO (by show w.heap.size + 1 ≠ w.heap.size + 1 + 1; omega) _).setO (by show w.heap.size + 1 ≠ w.heap.size + 1 + 1; omega) _
  replace O0 := (((O0.setI 4 (by simp) (.int .u64 (ww3 y))).setI 5 (by simp) (.int .u64 (ww2 y))).setI 6 (by simp) (.int .u64 (ww1 y))).setI 7 (by simp) (.int .u64 (ww0 y))
  replace HB : Below w.heap.size w ((((w2.setCell ⟨w.heap.size + 1 + 1, 4, none⟩ (.int .u64 (ww3 y))).setCell ⟨w.heap.size + 1 + 1, 5, none⟩ (.int .u64 (ww2 y))).setCell ⟨w.heap.size + 1 + 1, 6, none⟩ (.int .u64 (ww1 y))).setCell ⟨w.heap.size + 1 + 1, 7, none⟩ (.int .u64 (ww0 y))) := (((HB.setCell (by show w.heap.size ≤ w.heap.size + 1 + 1; omega) _).setCell (by show w.heap.size ≤ w.heap.size + 1 + 1; omega) _).setCell (by show w.heap.size ≤ w.heap.size + 1 + 1; omega) _).setCell (by show w.heap.size ≤ w.heap.size + 1 + 1; omega) _
  generalize ((((w2.setCell ⟨w.heap.size + 1 + 1, 4, none⟩ (.int .u64 (ww3 y))).setCell ⟨w.heap.size + 1 + 1, 5, none⟩ (.int .u64 (ww2 y))).setCell ⟨w.heap.size + 1 + 1, 6, none⟩ (.int .u64 (ww1 y))).setCell ⟨w.heap.size + 1 + 1, 7, none⟩ (.int .u64 (ww0 y))) = W2 at *
  simp only [List.set_cons_zero, List.set_cons_succ] at O0
  refine (toWide_det z _).mono ?_
  rintro e w3 ⟨rfl, hB⟩
  replace X0 := X0.step hB; replace R0 := R0.step hB; replace O0 := O0.step hB; replace HB := HB.trans (hB.mono HB.size)
  clear hB
  have oc0 := O0.c 0 rfl; have of0 := O0.f 0 rfl; have oc1 := O0.c 1 rfl; have of1 := O0.f 1 rfl; have oc2 := O0.c 2 rfl; have of2 := O0.f 2 rfl; have oc3 := O0.c 3 rfl; have of3 := O0.f 3 rfl; have oc4 := O0.c 4 rfl; have of4 := O0.f 4 rfl; have oc5 := O0.c 5 rfl; have of5 := O0.f 5 rfl; have oc6 := O0.c 6 rfl; have of6 := O0.f 6 rfl; have oc7 := O0.c 7 rfl; have of7 := O0.f 7 rfl; have oc8 := O0.c 8 rfl; have of8 := O0.f 8 rfl; have oc9 := O0.c 9 rfl; have of9 := O0.f 9 rfl; have oc10 := O0.c 10 rfl; have of10 := O0.f 10 rfl; have oc11 := O0.c 11 rfl; have of11 := O0.f 11 rfl; have ol := O0.lt; have rc0 := R0.c 0 rfl; have rf0 := R0.f 0 rfl; have rc1 := R0.c 1 rfl; have rf1 := R0.f 1 rfl; have rc2 := R0.c 2 rfl; have rf2 := R0.f 2 rfl; have rc3 := R0.c 3 rfl; have rf3 := R0.f 3 rfl; have rc4 := R0.c 4 rfl; have rf4 := R0.f 4 rfl; have rc5 := R0.c 5 rfl; have rf5 := R0.f 5 rfl; have rc6 := R0.c 6 rfl; have rf6 := R0.f 6 rfl; have rc7 := R0.c 7 rfl; have rf7 := R0.f 7 rfl; have rc8 := R0.c 8 rfl; have rf8 := R0.f 8 rfl; have rc9 := R0.c 9 rfl; have rf9 := R0.f 9 rfl; have rc10 := R0.c 10 rfl; have rf10 := R0.f 10 rfl; have rc11 := R0.c 11 rfl; have rf11 := R0.f 11 rfl; have rl := R0.lt
  have hne : w.heap.size + 1 + 1 ≠ w.heap.size + 1 := by omega
  clear R0 O0 X0
  go_wp2
  refine bodyPost_ret (v := PV x y z) (by simp [results, Try.results104, go_sem, rc0, rc1, rc2, rc3, rc4, rc5, rc6, rc7, rc8, rc9, rc10, rc11]) rfl ?_
  refine ⟨rfl, ?_⟩
  repeat' (refine Below.setCell ?_ (by simp; try omega) _)
  exact HB
abbrev WdD {H : Type} (a3 a2 a1 a0 : Int) : DataW H := .agg [.lit (.int .u64 a3), .lit (.int .u64 a2), .lit (.int .u64 a1), .lit (.int .u64 a0)]
theorem Try.cellsPoint : Try.prog.cellsOf 98 = 12 := by kernel_rfl
theorem trod_wide {H : Type} {enc : TypeId × Value → H} {w : World} {base : Nat} {spare : TypeId → Bool} {held : Bool} {n : Nat} {c0 c1 c2 c3 : Value} {y : DataW H × List MemPlace} (h : DataW.trod enc Try.prog w base spare held n 96 [c0, c1, c2, c3] = some y) :
    ∃ z : Int, told z = true ∧ c0 = .int .u64 (ww3 z) ∧ c1 = .int .u64 (ww2 z) ∧ c2 = .int .u64 (ww1 z) ∧ c3 = .int .u64 (ww0 z) ∧ y = (WdD (ww3 z) (ww2 z) (ww1 z) (ww0 z), []) := by
  obtain ⟨y0, y1, y2, y3, m, hx, _, h0, h1, h2, h3⟩ := trod_struct4 Try.underlying96 h
  obtain ⟨a, e0, rfl, wa⟩ := DataW.trod_int Try.underlying26 h0
  obtain ⟨b, e1, rfl, wb⟩ := DataW.trod_int Try.underlying26 h1
  obtain ⟨c, e2, rfl, wc⟩ := DataW.trod_int Try.underlying26 h2
  obtain ⟨d, e3, rfl, wd⟩ := DataW.trod_int Try.underlying26 h3
  have k : Try.prog.cellsOf 26 = 1 := by kernel_rfl
  simp [k] at e0 e1 e2 e3
  have ha := word_of_wf wa; have hb := word_of_wf wb; have hc := word_of_wf wc; have hd := word_of_wf wd
  obtain ⟨f3, f2, f1, f0⟩ := wd_of ha hb hc hd rfl
  have ht : told (sw a b c d) = true := by
    unfold told
    apply decide_eq_true
    unfold Word sw uw at *
    split <;> omega
  exact ⟨sw a b c d, ht, e0.trans (congrArg _ f3), e1.trans (congrArg _ f2), e2.trans (congrArg _ f1), e3.trans (congrArg _ f0), by rw [← f3, ← f2, ← f1, ← f0]; exact hx⟩
end Go.Proofs.Ytggfhpnflknhdaa

/- A spot as a point: the walks of the model's point, told, of the program's, and of the law. -/
namespace Go.Proofs.Ytggfhpnflknhdaa
open Go.RowKit
end Go.Proofs.Ytggfhpnflknhdaa

/- A spot as a point: the walks of the model's point, of the program's, and of the law. -/
namespace Go.Proofs.Ytggfhpnflknhdaa
open Go.RowKit
end Go.Proofs.Ytggfhpnflknhdaa

/- Two points that are one: the walk of the law's comparison. -/
namespace Go.Proofs.Ytggfhpnflknhdaa
open Go.RowKit
set_option maxRecDepth 100000 in
set_option maxHeartbeats 2000000 in
theorem eqPoint_same (a0 a1 a2 a3 a4 a5 a6 a7 a8 a9 a10 a11 : Int) (w : World) : Calls Try.prog 12 #[.agg #[.int .u64 a0, .int .u64 a1, .int .u64 a2, .int .u64 a3, .int .u64 a4, .int .u64 a5, .int .u64 a6, .int .u64 a7, .int .u64 a8, .int .u64 a9, .int .u64 a10, .int .u64 a11], .agg #[.int .u64 a0, .int .u64 a1, .int .u64 a2, .int .u64 a3, .int .u64 a4, .int .u64 a5, .int .u64 a6, .int .u64 a7, .int .u64 a8, .int .u64 a9, .int .u64 a10, .int .u64 a11]] w (BoolP true w) := by
  have B0 := (Blk.new w [.int .u64 a0, .int .u64 a1, .int .u64 a2, .int .u64 a3, .int .u64 a4, .int .u64 a5, .int .u64 a6, .int .u64 a7, .int .u64 a8, .int .u64 a9, .int .u64 a10, .int .u64 a11] 30 rfl).alloc (.cells #[.int .u64 a0, .int .u64 a1, .int .u64 a2, .int .u64 a3, .int .u64 a4, .int .u64 a5, .int .u64 a6, .int .u64 a7, .int .u64 a8, .int .u64 a9, .int .u64 a10, .int .u64 a11] 30)
  have B1 := Blk.new (w.alloc (.cells #[.int .u64 a0, .int .u64 a1, .int .u64 a2, .int .u64 a3, .int .u64 a4, .int .u64 a5, .int .u64 a6, .int .u64 a7, .int .u64 a8, .int .u64 a9, .int .u64 a10, .int .u64 a11] 30)) [.int .u64 a0, .int .u64 a1, .int .u64 a2, .int .u64 a3, .int .u64 a4, .int .u64 a5, .int .u64 a6, .int .u64 a7, .int .u64 a8, .int .u64 a9, .int .u64 a10, .int .u64 a11] 30 (g := w.heap.size + 1) (by simp)
  have HB0 : Below w.heap.size w ((w.alloc (.cells #[.int .u64 a0, .int .u64 a1, .int .u64 a2, .int .u64 a3, .int .u64 a4, .int .u64 a5, .int .u64 a6, .int .u64 a7, .int .u64 a8, .int .u64 a9, .int .u64 a10, .int .u64 a11] 30)).alloc (.cells #[.int .u64 a0, .int .u64 a1, .int .u64 a2, .int .u64 a3, .int .u64 a4, .int .u64 a5, .int .u64 a6, .int .u64 a7, .int .u64 a8, .int .u64 a9, .int .u64 a10, .int .u64 a11] 30)) := ((Below.refl _ _).alloc (Nat.le_refl _) _).alloc (by simp) _
  go_enter Try.func12, Try.ntmps12
  go_wp2_with fail
  refine (eqWide_same _ _ _ _ _).mono ?_
  rintro e w1 ⟨rfl, hB⟩
  replace B0 := B0.step hB; replace B1 := B1.step hB
  have HB1 : Below w.heap.size w w1 := HB0.trans (hB.mono HB0.size)
  clear hB
  have ma0 := B0.c 0 rfl; have mb0 := B1.c 0 rfl; have ma1 := B0.c 1 rfl; have mb1 := B1.c 1 rfl; have ma2 := B0.c 2 rfl; have mb2 := B1.c 2 rfl; have ma3 := B0.c 3 rfl; have mb3 := B1.c 3 rfl; have ma4 := B0.c 4 rfl; have mb4 := B1.c 4 rfl; have ma5 := B0.c 5 rfl; have mb5 := B1.c 5 rfl; have ma6 := B0.c 6 rfl; have mb6 := B1.c 6 rfl; have ma7 := B0.c 7 rfl; have mb7 := B1.c 7 rfl; have ma8 := B0.c 8 rfl; have mb8 := B1.c 8 rfl; have ma9 := B0.c 9 rfl; have mb9 := B1.c 9 rfl; have ma10 := B0.c 10 rfl; have mb10 := B1.c 10 rfl; have ma11 := B0.c 11 rfl; have mb11 := B1.c 11 rfl
  go_wp2_with fail
  refine (eqWide_same _ _ _ _ _).mono ?_
  rintro e w2 ⟨rfl, hB⟩
  replace B0 := B0.step hB; replace B1 := B1.step hB
  have HB2 : Below w.heap.size w w2 := HB1.trans (hB.mono HB1.size)
  clear hB ma0 mb0 ma1 mb1 ma2 mb2 ma3 mb3 ma4 mb4 ma5 mb5 ma6 mb6 ma7 mb7 ma8 mb8 ma9 mb9 ma10 mb10 ma11 mb11
  have ma0 := B0.c 0 rfl; have mb0 := B1.c 0 rfl; have ma1 := B0.c 1 rfl; have mb1 := B1.c 1 rfl; have ma2 := B0.c 2 rfl; have mb2 := B1.c 2 rfl; have ma3 := B0.c 3 rfl; have mb3 := B1.c 3 rfl; have ma4 := B0.c 4 rfl; have mb4 := B1.c 4 rfl; have ma5 := B0.c 5 rfl; have mb5 := B1.c 5 rfl; have ma6 := B0.c 6 rfl; have mb6 := B1.c 6 rfl; have ma7 := B0.c 7 rfl; have mb7 := B1.c 7 rfl; have ma8 := B0.c 8 rfl; have mb8 := B1.c 8 rfl; have ma9 := B0.c 9 rfl; have mb9 := B1.c 9 rfl; have ma10 := B0.c 10 rfl; have mb10 := B1.c 10 rfl; have ma11 := B0.c 11 rfl; have mb11 := B1.c 11 rfl
  go_wp2_with fail
  refine (eqWide_same _ _ _ _ _).mono ?_
  rintro e w3 ⟨rfl, hB⟩
  replace B0 := B0.step hB; replace B1 := B1.step hB
  have HB3 : Below w.heap.size w w3 := HB2.trans (hB.mono HB2.size)
  clear hB ma0 mb0 ma1 mb1 ma2 mb2 ma3 mb3 ma4 mb4 ma5 mb5 ma6 mb6 ma7 mb7 ma8 mb8 ma9 mb9 ma10 mb10 ma11 mb11
  clear B0 B1
  go_wp2
  go_ret
  exact ⟨rfl, HB3⟩
end Go.Proofs.Ytggfhpnflknhdaa

/- Spots and segments beside points: the walks of their rightness, by the model and by the program. -/
namespace Go.Proofs.Ytggfhpnflknhdaa
open Go.RowKit
/-- Four cells of a block, to be written. -/
structure Quad (W : World) (g : Nat) (v0 v1 v2 v3 : Value) : Prop where
  c0 : W.cell? ⟨g, 0, none⟩ = some v0
  c1 : W.cell? ⟨g, 1, none⟩ = some v1
  c2 : W.cell? ⟨g, 2, none⟩ = some v2
  c3 : W.cell? ⟨g, 3, none⟩ = some v3
  f0 : W.frozen? ⟨g, 0, none⟩ = false
  f1 : W.frozen? ⟨g, 1, none⟩ = false
  f2 : W.frozen? ⟨g, 2, none⟩ = false
  f3 : W.frozen? ⟨g, 3, none⟩ = false
  lt : g < W.heap.size
theorem Quad.below {W W' : World} {B g : Nat} {v0 v1 v2 v3 : Value} (h : Quad W g v0 v1 v2 v3) (hB : Below B W W') (hg : g < B) : Quad W' g v0 v1 v2 v3 :=
  ⟨(hB.cell (p := ⟨g, 0, none⟩) hg).trans h.c0, (hB.cell (p := ⟨g, 1, none⟩) hg).trans h.c1, (hB.cell (p := ⟨g, 2, none⟩) hg).trans h.c2, (hB.cell (p := ⟨g, 3, none⟩) hg).trans h.c3,
   (hB.frozen (p := ⟨g, 0, none⟩) hg).trans h.f0, (hB.frozen (p := ⟨g, 1, none⟩) hg).trans h.f1, (hB.frozen (p := ⟨g, 2, none⟩) hg).trans h.f2, (hB.frozen (p := ⟨g, 3, none⟩) hg).trans h.f3, Nat.lt_of_lt_of_le h.lt hB.size⟩
theorem Quad.alloc {W : World} {g : Nat} {v0 v1 v2 v3 : Value} (h : Quad W g v0 v1 v2 v3) (o : Obj) : Quad (W.alloc o) g v0 v1 v2 v3 := h.below ((Below.refl W.heap.size W).alloc (Nat.le_refl _) o) h.lt
theorem Quad.new (W : World) (v0 v1 v2 v3 : Value) (t : TypeId) {g : Nat} (hg : g = W.heap.size) : Quad (W.alloc (.cells #[v0, v1, v2, v3] t)) g v0 v1 v2 v3 := by
  subst hg
  constructor <;> simp [go_sem]
end Go.Proofs.Ytggfhpnflknhdaa

/- The ends of a segment as points: the program's walk. -/
namespace Go.Proofs.Ytggfhpnflknhdaa
open Go.RowKit
end Go.Proofs.Ytggfhpnflknhdaa

/- Rows of points: how they lie, and the walks over them. -/
namespace Go.Proofs.Ytggfhpnflknhdaa
open Go.RowKit
/-- The words of points, one behind the other. -/
def ptW (q : Nat → Int × Int × Int) (k : Nat) : Int :=
  if k % 12 = 0 then ww3 (q (k / 12)).1
  else if k % 12 = 1 then ww2 (q (k / 12)).1
  else if k % 12 = 2 then ww1 (q (k / 12)).1
  else if k % 12 = 3 then ww0 (q (k / 12)).1
  else if k % 12 = 4 then ww3 (q (k / 12)).2.1
  else if k % 12 = 5 then ww2 (q (k / 12)).2.1
  else if k % 12 = 6 then ww1 (q (k / 12)).2.1
  else if k % 12 = 7 then ww0 (q (k / 12)).2.1
  else if k % 12 = 8 then ww3 (q (k / 12)).2.2
  else if k % 12 = 9 then ww2 (q (k / 12)).2.2
  else if k % 12 = 10 then ww1 (q (k / 12)).2.2
  else ww0 (q (k / 12)).2.2
theorem ptW0 (q : Nat → Int × Int × Int) (c : Nat) : ptW q (c * 12) = ww3 (q c).1 := by
  unfold ptW
  rw [show (c * 12) / 12 = c by omega, show (c * 12) % 12 = 0 by omega]
  rfl
theorem ptW1 (q : Nat → Int × Int × Int) (c : Nat) : ptW q (c * 12 + 1) = ww2 (q c).1 := by
  unfold ptW
  rw [show (c * 12 + 1) / 12 = c by omega, show (c * 12 + 1) % 12 = 1 by omega]
  rfl
theorem ptW2 (q : Nat → Int × Int × Int) (c : Nat) : ptW q (c * 12 + 2) = ww1 (q c).1 := by
  unfold ptW
  rw [show (c * 12 + 2) / 12 = c by omega, show (c * 12 + 2) % 12 = 2 by omega]
  rfl
theorem ptW3 (q : Nat → Int × Int × Int) (c : Nat) : ptW q (c * 12 + 3) = ww0 (q c).1 := by
  unfold ptW
  rw [show (c * 12 + 3) / 12 = c by omega, show (c * 12 + 3) % 12 = 3 by omega]
  rfl
theorem ptW4 (q : Nat → Int × Int × Int) (c : Nat) : ptW q (c * 12 + 4) = ww3 (q c).2.1 := by
  unfold ptW
  rw [show (c * 12 + 4) / 12 = c by omega, show (c * 12 + 4) % 12 = 4 by omega]
  rfl
theorem ptW5 (q : Nat → Int × Int × Int) (c : Nat) : ptW q (c * 12 + 5) = ww2 (q c).2.1 := by
  unfold ptW
  rw [show (c * 12 + 5) / 12 = c by omega, show (c * 12 + 5) % 12 = 5 by omega]
  rfl
theorem ptW6 (q : Nat → Int × Int × Int) (c : Nat) : ptW q (c * 12 + 6) = ww1 (q c).2.1 := by
  unfold ptW
  rw [show (c * 12 + 6) / 12 = c by omega, show (c * 12 + 6) % 12 = 6 by omega]
  rfl
theorem ptW7 (q : Nat → Int × Int × Int) (c : Nat) : ptW q (c * 12 + 7) = ww0 (q c).2.1 := by
  unfold ptW
  rw [show (c * 12 + 7) / 12 = c by omega, show (c * 12 + 7) % 12 = 7 by omega]
  rfl
theorem ptW8 (q : Nat → Int × Int × Int) (c : Nat) : ptW q (c * 12 + 8) = ww3 (q c).2.2 := by
  unfold ptW
  rw [show (c * 12 + 8) / 12 = c by omega, show (c * 12 + 8) % 12 = 8 by omega]
  rfl
theorem ptW9 (q : Nat → Int × Int × Int) (c : Nat) : ptW q (c * 12 + 9) = ww2 (q c).2.2 := by
  unfold ptW
  rw [show (c * 12 + 9) / 12 = c by omega, show (c * 12 + 9) % 12 = 9 by omega]
  rfl
theorem ptW10 (q : Nat → Int × Int × Int) (c : Nat) : ptW q (c * 12 + 10) = ww1 (q c).2.2 := by
  unfold ptW
  rw [show (c * 12 + 10) / 12 = c by omega, show (c * 12 + 10) % 12 = 10 by omega]
  rfl
theorem ptW11 (q : Nat → Int × Int × Int) (c : Nat) : ptW q (c * 12 + 11) = ww0 (q c).2.2 := by
  unfold ptW
  rw [show (c * 12 + 11) / 12 = c by omega, show (c * 12 + 11) % 12 = 11 by omega]
  rfl
/-- n points lie behind a slice's address. -/
def PtIn (w : World) (ao : Option Addr) (n : Nat) (q : Nat → Int × Int × Int) : Prop :=
  ∀ i, i < n → ∃ A off, ao = some ⟨A, off, none⟩ ∧ A < w.heap.size ∧ ∀ j, j < 12 → w.cell? ⟨A, off + i * 12 + j, none⟩ = some (.int .u64 (ptW q (i * 12 + j)))
theorem PtIn.step {w w' : World} {ao : Option Addr} {n : Nat} {q : Nat → Int × Int × Int} (h : PtIn w ao n q) (hB : Below w.heap.size w w') : PtIn w' ao n q := fun i hi => by
  obtain ⟨A, off, e, hA, hc⟩ := h i hi
  exact ⟨A, off, e, Nat.lt_of_lt_of_le hA hB.size, fun j hj => (hB.cell (p := ⟨A, off + i * 12 + j, none⟩) hA).trans (hc j hj)⟩
theorem PtIn.drew {w : World} {ao : Option Addr} {n : Nat} {q : Nat → Int × Int × Int} (h : PtIn w ao n q) : PtIn w.drew ao n q := h
theorem ptIn_row {w : World} {g n : Nat} {T : TypeId} {q : Nat → Int × Int × Int} (h : w.rowIs g T (n * 12) (fun i => .int .u64 (ptW q i))) : PtIn w (some ⟨g, 0, none⟩) n q := fun i hi =>
  ⟨g, 0, rfl, h.lt, fun j hj => by rw [Nat.zero_add]; exact h.cell (by omega)⟩
theorem PtIn.at {w : World} {ao : Option Addr} {n : Nat} {q : Nat → Int × Int × Int} (h : PtIn w ao n q) {i : Nat} (hi : i < n) : ∃ A off, ao = some ⟨A, off, none⟩ ∧ A < w.heap.size ∧ w.cell? ⟨A, off + i * 12, none⟩ = some (.int .u64 (ww3 (q i).1)) ∧ w.cell? ⟨A, off + i * 12 + 1, none⟩ = some (.int .u64 (ww2 (q i).1)) ∧ w.cell? ⟨A, off + i * 12 + 2, none⟩ = some (.int .u64 (ww1 (q i).1)) ∧ w.cell? ⟨A, off + i * 12 + 3, none⟩ = some (.int .u64 (ww0 (q i).1)) ∧ w.cell? ⟨A, off + i * 12 + 4, none⟩ = some (.int .u64 (ww3 (q i).2.1)) ∧ w.cell? ⟨A, off + i * 12 + 5, none⟩ = some (.int .u64 (ww2 (q i).2.1)) ∧ w.cell? ⟨A, off + i * 12 + 6, none⟩ = some (.int .u64 (ww1 (q i).2.1)) ∧ w.cell? ⟨A, off + i * 12 + 7, none⟩ = some (.int .u64 (ww0 (q i).2.1)) ∧ w.cell? ⟨A, off + i * 12 + 8, none⟩ = some (.int .u64 (ww3 (q i).2.2)) ∧ w.cell? ⟨A, off + i * 12 + 9, none⟩ = some (.int .u64 (ww2 (q i).2.2)) ∧ w.cell? ⟨A, off + i * 12 + 10, none⟩ = some (.int .u64 (ww1 (q i).2.2)) ∧ w.cell? ⟨A, off + i * 12 + 11, none⟩ = some (.int .u64 (ww0 (q i).2.2)) := by
  obtain ⟨A, off, e, hA, hc⟩ := h i hi
  refine ⟨A, off, e, hA, ?_, ?_, ?_, ?_, ?_, ?_, ?_, ?_, ?_, ?_, ?_, ?_⟩
  · have := hc 0 (by omega); rw [show i * 12 + 0 = i * 12 from rfl, ptW0] at this; exact this
  · have := hc 1 (by omega); rw [show i * 12 + 1 = i * 12 + 1 from rfl, ptW1] at this; exact this
  · have := hc 2 (by omega); rw [show i * 12 + 2 = i * 12 + 2 from rfl, ptW2] at this; exact this
  · have := hc 3 (by omega); rw [show i * 12 + 3 = i * 12 + 3 from rfl, ptW3] at this; exact this
  · have := hc 4 (by omega); rw [show i * 12 + 4 = i * 12 + 4 from rfl, ptW4] at this; exact this
  · have := hc 5 (by omega); rw [show i * 12 + 5 = i * 12 + 5 from rfl, ptW5] at this; exact this
  · have := hc 6 (by omega); rw [show i * 12 + 6 = i * 12 + 6 from rfl, ptW6] at this; exact this
  · have := hc 7 (by omega); rw [show i * 12 + 7 = i * 12 + 7 from rfl, ptW7] at this; exact this
  · have := hc 8 (by omega); rw [show i * 12 + 8 = i * 12 + 8 from rfl, ptW8] at this; exact this
  · have := hc 9 (by omega); rw [show i * 12 + 9 = i * 12 + 9 from rfl, ptW9] at this; exact this
  · have := hc 10 (by omega); rw [show i * 12 + 10 = i * 12 + 10 from rfl, ptW10] at this; exact this
  · have := hc 11 (by omega); rw [show i * 12 + 11 = i * 12 + 11 from rfl, ptW11] at this; exact this
theorem Try.infoPoint : (Try.prog.info? 30).map (fun i => (i.zero, i.size, i.bytes)) = some (some (.agg #[.int .u64 0, .int .u64 0, .int .u64 0, .int .u64 0, .int .u64 0, .int .u64 0, .int .u64 0, .int .u64 0, .int .u64 0, .int .u64 0, .int .u64 0, .int .u64 0]), 12, 96) := by kernel_rfl
theorem make_points (n : Nat) (hn : n ≤ 1048576) (w : World) : (Instr.makeSlice 116 (.int .i64 (n : Int)) (.int .i64 (n : Int))).run Try.prog w = .ok (.slice (some ⟨w.heap.size, 0, none⟩) n n) (w.alloc (.cells (madeCells #[.int .u64 0, .int .u64 0, .int .u64 0, .int .u64 0, .int .u64 0, .int .u64 0, .int .u64 0, .int .u64 0, .int .u64 0, .int .u64 0, .int .u64 0, .int .u64 0] (n * 12)) 30)) := by
  obtain ⟨i, hi, hzz⟩ := Option.map_eq_some_iff.1 Try.infoPoint
  simp only [Prod.mk.injEq] at hzz
  obtain ⟨hz, hs, hb⟩ := hzz
  have hr := run_make (P := Try.prog) w 116 30 i (.agg #[.int .u64 0, .int .u64 0, .int .u64 0, .int .u64 0, .int .u64 0, .int .u64 0, .int .u64 0, .int .u64 0, .int .u64 0, .int .u64 0, .int .u64 0, .int .u64 0]) Try.underlying116 hi hz .i64 .i64 n n (by omega) (Int.le_refl _) (by rw [hb]; omega) (by omega)
  simp only [Int.toNat_natCast, hs, Value.cells] at hr
  exact hr
theorem rowp_made (w : World) (n : Nat) (T : TypeId) : (w.alloc (.cells (madeCells #[.int .u64 0, .int .u64 0, .int .u64 0, .int .u64 0, .int .u64 0, .int .u64 0, .int .u64 0, .int .u64 0, .int .u64 0, .int .u64 0, .int .u64 0, .int .u64 0] (n * 12)) T)).rowIs w.heap.size T (n * 12) (fun _ => .int .u64 0) := by
  have h := World.rowIs_alloc w (madeCells #[.int .u64 0, .int .u64 0, .int .u64 0, .int .u64 0, .int .u64 0, .int .u64 0, .int .u64 0, .int .u64 0, .int .u64 0, .int .u64 0, .int .u64 0, .int .u64 0] (n * 12)) T (fun _ => .int .u64 0) (fun i hi => by
    rw [size_madeCells] at hi
    simp [madeCells, hi]
    rcases (show i % 12 = 0 ∨ i % 12 = 1 ∨ i % 12 = 2 ∨ i % 12 = 3 ∨ i % 12 = 4 ∨ i % 12 = 5 ∨ i % 12 = 6 ∨ i % 12 = 7 ∨ i % 12 = 8 ∨ i % 12 = 9 ∨ i % 12 = 10 ∨ i % 12 = 11 by omega) with h | h | h | h | h | h | h | h | h | h | h | h <;> simp [h])
  rwa [size_madeCells] at h
/-- So far the row holds what was copied, behind it zeros. -/
def cpP (q : Nat → Int × Int × Int) (c : Nat) (i : Nat) : Value := .int .u64 (if i < c * 12 then ptW q i else 0)
theorem rowp_step {w w' : World} {g n : Nat} {T : TypeId} {f : Nat → Value} (h : w.rowIs g T n f) (hB : Below w.heap.size w w') : w'.rowIs g T n f := h.of_block (hB.block g h.lt)
theorem cpp_step {w : World} {g n c : Nat} {T : TypeId} {q : Nat → Int × Int × Int} (h : w.rowIs g T (n * 12) (cpP q c)) : ((((((((((((w.setCell ⟨g, c * 12, none⟩ (.int .u64 (ww3 (q c).1))).setCell ⟨g, c * 12 + 1, none⟩ (.int .u64 (ww2 (q c).1))).setCell ⟨g, c * 12 + 2, none⟩ (.int .u64 (ww1 (q c).1))).setCell ⟨g, c * 12 + 3, none⟩ (.int .u64 (ww0 (q c).1))).setCell ⟨g, c * 12 + 4, none⟩ (.int .u64 (ww3 (q c).2.1))).setCell ⟨g, c * 12 + 5, none⟩ (.int .u64 (ww2 (q c).2.1))).setCell ⟨g, c * 12 + 6, none⟩ (.int .u64 (ww1 (q c).2.1))).setCell ⟨g, c * 12 + 7, none⟩ (.int .u64 (ww0 (q c).2.1))).setCell ⟨g, c * 12 + 8, none⟩ (.int .u64 (ww3 (q c).2.2))).setCell ⟨g, c * 12 + 9, none⟩ (.int .u64 (ww2 (q c).2.2))).setCell ⟨g, c * 12 + 10, none⟩ (.int .u64 (ww1 (q c).2.2))).setCell ⟨g, c * 12 + 11, none⟩ (.int .u64 (ww0 (q c).2.2))).rowIs g T (n * 12) (cpP q (c + 1)) := by
  refine ((((((((((((h.set (c * 12) (.int .u64 (ww3 (q c).1))).set (c * 12 + 1) (.int .u64 (ww2 (q c).1))).set (c * 12 + 2) (.int .u64 (ww1 (q c).1))).set (c * 12 + 3) (.int .u64 (ww0 (q c).1))).set (c * 12 + 4) (.int .u64 (ww3 (q c).2.1))).set (c * 12 + 5) (.int .u64 (ww2 (q c).2.1))).set (c * 12 + 6) (.int .u64 (ww1 (q c).2.1))).set (c * 12 + 7) (.int .u64 (ww0 (q c).2.1))).set (c * 12 + 8) (.int .u64 (ww3 (q c).2.2))).set (c * 12 + 9) (.int .u64 (ww2 (q c).2.2))).set (c * 12 + 10) (.int .u64 (ww1 (q c).2.2))).set (c * 12 + 11) (.int .u64 (ww0 (q c).2.2))).congr (fun i hi => ?_)
  unfold cpP
  by_cases h11 : i = c * 12 + 11
  · subst h11
    rw [if_pos (show c * 12 + 11 < (c + 1) * 12 by omega), ptW11]
    simp
  by_cases h10 : i = c * 12 + 10
  · subst h10
    rw [if_pos (show c * 12 + 10 < (c + 1) * 12 by omega), ptW10]
    simp
  by_cases h9 : i = c * 12 + 9
  · subst h9
    rw [if_pos (show c * 12 + 9 < (c + 1) * 12 by omega), ptW9]
    simp
  by_cases h8 : i = c * 12 + 8
  · subst h8
    rw [if_pos (show c * 12 + 8 < (c + 1) * 12 by omega), ptW8]
    simp
  by_cases h7 : i = c * 12 + 7
  · subst h7
    rw [if_pos (show c * 12 + 7 < (c + 1) * 12 by omega), ptW7]
    simp
  by_cases h6 : i = c * 12 + 6
  · subst h6
    rw [if_pos (show c * 12 + 6 < (c + 1) * 12 by omega), ptW6]
    simp
  by_cases h5 : i = c * 12 + 5
  · subst h5
    rw [if_pos (show c * 12 + 5 < (c + 1) * 12 by omega), ptW5]
    simp
  by_cases h4 : i = c * 12 + 4
  · subst h4
    rw [if_pos (show c * 12 + 4 < (c + 1) * 12 by omega), ptW4]
    simp
  by_cases h3 : i = c * 12 + 3
  · subst h3
    rw [if_pos (show c * 12 + 3 < (c + 1) * 12 by omega), ptW3]
    simp
  by_cases h2 : i = c * 12 + 2
  · subst h2
    rw [if_pos (show c * 12 + 2 < (c + 1) * 12 by omega), ptW2]
    simp
  by_cases h1 : i = c * 12 + 1
  · subst h1
    rw [if_pos (show c * 12 + 1 < (c + 1) * 12 by omega), ptW1]
    simp
  by_cases h0 : i = c * 12
  · subst h0
    rw [if_pos (show c * 12 < (c + 1) * 12 by omega), ptW0]
    simp
  simp only [h0, h1, h2, h3, h4, h5, h6, h7, h8, h9, h10, h11, if_false]
  by_cases hl : i < c * 12
  · rw [if_pos hl, if_pos (by omega)]
  · rw [if_neg hl, if_neg (by omega)]
theorem belowp {w W : World} {g c : Nat} {q : Nat → Int × Int × Int} (hg : w.heap.size ≤ g) (h : Below w.heap.size w W) : Below w.heap.size w ((((((((((((W.setCell ⟨g, c * 12, none⟩ (.int .u64 (ww3 (q c).1))).setCell ⟨g, c * 12 + 1, none⟩ (.int .u64 (ww2 (q c).1))).setCell ⟨g, c * 12 + 2, none⟩ (.int .u64 (ww1 (q c).1))).setCell ⟨g, c * 12 + 3, none⟩ (.int .u64 (ww0 (q c).1))).setCell ⟨g, c * 12 + 4, none⟩ (.int .u64 (ww3 (q c).2.1))).setCell ⟨g, c * 12 + 5, none⟩ (.int .u64 (ww2 (q c).2.1))).setCell ⟨g, c * 12 + 6, none⟩ (.int .u64 (ww1 (q c).2.1))).setCell ⟨g, c * 12 + 7, none⟩ (.int .u64 (ww0 (q c).2.1))).setCell ⟨g, c * 12 + 8, none⟩ (.int .u64 (ww3 (q c).2.2))).setCell ⟨g, c * 12 + 9, none⟩ (.int .u64 (ww2 (q c).2.2))).setCell ⟨g, c * 12 + 10, none⟩ (.int .u64 (ww1 (q c).2.2))).setCell ⟨g, c * 12 + 11, none⟩ (.int .u64 (ww0 (q c).2.2))) := by
  repeat' (refine Below.setCell ?_ (by exact hg) _)
  exact h
set_option maxRecDepth 100000 in
set_option maxHeartbeats 2000000 in
theorem toPointS_any (ao : Option Addr) (n cap : Nat) (q : Nat → Int × Int × Int) (hn : n ≤ 1048576) (w : World) (hS : PtIn w ao n q) : Calls Try.prog 114 #[.slice ao n cap] w (fun e w' => ∃ g, e = .returned (.slice (some ⟨g, 0, none⟩) n n) ∧ w.heap.size ≤ g ∧ w'.rowIs g 30 (n * 12) (fun i => .int .u64 (ptW q i)) ∧ Below w.heap.size w w') := by
  have MK := make_points n hn
  have HS : Hid (PtIn w ao n q) := hS
  clear hS
  go_enter Try.func114, Try.ntmps114
  go_wp2_with fail
  have R0 := rowp_made w n 30
  have B0 : Below w.heap.size w (w.alloc (.cells (madeCells #[.int .u64 0, .int .u64 0, .int .u64 0, .int .u64 0, .int .u64 0, .int .u64 0, .int .u64 0, .int .u64 0, .int .u64 0, .int .u64 0, .int .u64 0, .int .u64 0] (n * 12)) 30)) := (Below.refl _ _).alloc (Nat.le_refl _) _
  generalize w.alloc (.cells (madeCells #[.int .u64 0, .int .u64 0, .int .u64 0, .int .u64 0, .int .u64 0, .int .u64 0, .int .u64 0, .int .u64 0, .int .u64 0, .int .u64 0, .int .u64 0, .int .u64 0] (n * 12)) 30) = W1 at *
  have hnI : (n : Int) ≤ 1048576 := by omega
  clear MK
  go_loopw [4] (fun i wr => ∃ c : Nat, c ≤ n ∧ i = .int .i64 c ∧ wr.rowIs w.heap.size 30 (n * 12) (cpP q c) ∧ Below w.heap.size w wr) (fun i _ => n - (intOf i).toNat)
  case atStart => exact ⟨0, by omega, rfl, R0.congr (fun i _ => by unfold cpP; simp), B0⟩
  case round =>
    clear R0 B0
    obtain ⟨c, hc, rfl, R, HB⟩ := hrel
    by_cases hcn : c < n
    · obtain ⟨A, off, rfl, hA, q0, q1, q2, q3, q4, q5, q6, q7, q8, q9, q10, q11⟩ := (HS.out.step HB).at hcn
      have hcI : (c : Int) < n := by omega
      go_wp2_with fail
      refine (toPoint_det (q c).1 (q c).2.1 (q c).2.2 _).mono ?_
      rintro e w1 ⟨rfl, hB⟩
      replace R := rowp_step R hB
      replace HB := HB.trans (hB.mono HB.size)
      have o0 := R.cell (i := c * 12) (by omega); have f0 := R.frozen (c * 12); have o1 := R.cell (i := c * 12 + 1) (by omega); have f1 := R.frozen (c * 12 + 1); have o2 := R.cell (i := c * 12 + 2) (by omega); have f2 := R.frozen (c * 12 + 2); have o3 := R.cell (i := c * 12 + 3) (by omega); have f3 := R.frozen (c * 12 + 3); have o4 := R.cell (i := c * 12 + 4) (by omega); have f4 := R.frozen (c * 12 + 4); have o5 := R.cell (i := c * 12 + 5) (by omega); have f5 := R.frozen (c * 12 + 5); have o6 := R.cell (i := c * 12 + 6) (by omega); have f6 := R.frozen (c * 12 + 6); have o7 := R.cell (i := c * 12 + 7) (by omega); have f7 := R.frozen (c * 12 + 7); have o8 := R.cell (i := c * 12 + 8) (by omega); have f8 := R.frozen (c * 12 + 8); have o9 := R.cell (i := c * 12 + 9) (by omega); have f9 := R.frozen (c * 12 + 9); have o10 := R.cell (i := c * 12 + 10) (by omega); have f10 := R.frozen (c * 12 + 10); have o11 := R.cell (i := c * 12 + 11) (by omega); have f11 := R.frozen (c * 12 + 11)
      have RN := cpp_step R
      have HN : Below w.heap.size w ((((((((((((w1.setCell ⟨w.heap.size, c * 12, none⟩ (.int .u64 (ww3 (q c).1))).setCell ⟨w.heap.size, c * 12 + 1, none⟩ (.int .u64 (ww2 (q c).1))).setCell ⟨w.heap.size, c * 12 + 2, none⟩ (.int .u64 (ww1 (q c).1))).setCell ⟨w.heap.size, c * 12 + 3, none⟩ (.int .u64 (ww0 (q c).1))).setCell ⟨w.heap.size, c * 12 + 4, none⟩ (.int .u64 (ww3 (q c).2.1))).setCell ⟨w.heap.size, c * 12 + 5, none⟩ (.int .u64 (ww2 (q c).2.1))).setCell ⟨w.heap.size, c * 12 + 6, none⟩ (.int .u64 (ww1 (q c).2.1))).setCell ⟨w.heap.size, c * 12 + 7, none⟩ (.int .u64 (ww0 (q c).2.1))).setCell ⟨w.heap.size, c * 12 + 8, none⟩ (.int .u64 (ww3 (q c).2.2))).setCell ⟨w.heap.size, c * 12 + 9, none⟩ (.int .u64 (ww2 (q c).2.2))).setCell ⟨w.heap.size, c * 12 + 10, none⟩ (.int .u64 (ww1 (q c).2.2))).setCell ⟨w.heap.size, c * 12 + 11, none⟩ (.int .u64 (ww0 (q c).2.2))) := belowp (Nat.le_refl _) HB
      clear hB q0 q1 q2 q3 q4 q5 q6 q7 q8 q9 q10 q11 hA R HB
      go_wp2
      go_roundw
      case rel => exact ⟨c + 1, by omega, by go_num, RN, HN⟩
      case measure => simp [intOf]; omega
    · obtain rfl : c = n := by omega
      have RN : wr.rowIs w.heap.size 30 (c * 12) (fun i => .int .u64 (ptW q i)) := R.congr (fun i hi => by unfold cpP; rw [if_pos hi])
      clear R HS
      go_wp2
      go_ret
      exact ⟨_, rfl, Nat.le_refl _, RN, HB⟩
set_option maxRecDepth 100000 in
set_option maxHeartbeats 2000000 in
theorem eqPointS_any (ao bo : Option Addr) (n ca cb : Nat) (q : Nat → Int × Int × Int) (hn : n ≤ 1048576) (w : World) (hA : PtIn w ao n q) (hC : PtIn w bo n q) : Calls Try.prog 115 #[.slice ao n ca, .slice bo n cb] w (BoolP true w) := by
  have HA : Hid (PtIn w ao n q) := hA
  have HC : Hid (PtIn w bo n q) := hC
  have hnI : (n : Int) ≤ 1048576 := by omega
  clear hA hC
  go_enter Try.func115, Try.ntmps115
  go_wp2_with fail
  go_loopw [5] (fun i wr => ∃ c : Nat, c ≤ n ∧ i = .int .i64 c ∧ Below w.heap.size w wr) (fun i _ => n - (intOf i).toNat)
  case atStart => exact ⟨0, by omega, rfl, Below.refl _ _⟩
  case round =>
    obtain ⟨c, hc, rfl, HB⟩ := hrel
    by_cases hcn : c < n
    · obtain ⟨A, off, rfl, hA, q0, q1, q2, q3, q4, q5, q6, q7, q8, q9, q10, q11⟩ := (HA.out.step HB).at hcn
      obtain ⟨B, of2, rfl, hB', r0, r1, r2, r3, r4, r5, r6, r7, r8, r9, r10, r11⟩ := (HC.out.step HB).at hcn
      have hcI : (c : Int) < n := by omega
      have KS : (fun w' => w'.cell? ⟨A, off + c * 12, none⟩ = some (.int .u64 (ww3 (q c).1)) ∧ w'.cell? ⟨A, off + c * 12 + 1, none⟩ = some (.int .u64 (ww2 (q c).1)) ∧ w'.cell? ⟨A, off + c * 12 + 2, none⟩ = some (.int .u64 (ww1 (q c).1)) ∧ w'.cell? ⟨A, off + c * 12 + 3, none⟩ = some (.int .u64 (ww0 (q c).1)) ∧ w'.cell? ⟨A, off + c * 12 + 4, none⟩ = some (.int .u64 (ww3 (q c).2.1)) ∧ w'.cell? ⟨A, off + c * 12 + 5, none⟩ = some (.int .u64 (ww2 (q c).2.1)) ∧ w'.cell? ⟨A, off + c * 12 + 6, none⟩ = some (.int .u64 (ww1 (q c).2.1)) ∧ w'.cell? ⟨A, off + c * 12 + 7, none⟩ = some (.int .u64 (ww0 (q c).2.1)) ∧ w'.cell? ⟨A, off + c * 12 + 8, none⟩ = some (.int .u64 (ww3 (q c).2.2)) ∧ w'.cell? ⟨A, off + c * 12 + 9, none⟩ = some (.int .u64 (ww2 (q c).2.2)) ∧ w'.cell? ⟨A, off + c * 12 + 10, none⟩ = some (.int .u64 (ww1 (q c).2.2)) ∧ w'.cell? ⟨A, off + c * 12 + 11, none⟩ = some (.int .u64 (ww0 (q c).2.2)) ∧ w'.cell? ⟨B, of2 + c * 12, none⟩ = some (.int .u64 (ww3 (q c).1)) ∧ w'.cell? ⟨B, of2 + c * 12 + 1, none⟩ = some (.int .u64 (ww2 (q c).1)) ∧ w'.cell? ⟨B, of2 + c * 12 + 2, none⟩ = some (.int .u64 (ww1 (q c).1)) ∧ w'.cell? ⟨B, of2 + c * 12 + 3, none⟩ = some (.int .u64 (ww0 (q c).1)) ∧ w'.cell? ⟨B, of2 + c * 12 + 4, none⟩ = some (.int .u64 (ww3 (q c).2.1)) ∧ w'.cell? ⟨B, of2 + c * 12 + 5, none⟩ = some (.int .u64 (ww2 (q c).2.1)) ∧ w'.cell? ⟨B, of2 + c * 12 + 6, none⟩ = some (.int .u64 (ww1 (q c).2.1)) ∧ w'.cell? ⟨B, of2 + c * 12 + 7, none⟩ = some (.int .u64 (ww0 (q c).2.1)) ∧ w'.cell? ⟨B, of2 + c * 12 + 8, none⟩ = some (.int .u64 (ww3 (q c).2.2)) ∧ w'.cell? ⟨B, of2 + c * 12 + 9, none⟩ = some (.int .u64 (ww2 (q c).2.2)) ∧ w'.cell? ⟨B, of2 + c * 12 + 10, none⟩ = some (.int .u64 (ww1 (q c).2.2)) ∧ w'.cell? ⟨B, of2 + c * 12 + 11, none⟩ = some (.int .u64 (ww0 (q c).2.2))) wr := ⟨q0, q1, q2, q3, q4, q5, q6, q7, q8, q9, q10, q11, r0, r1, r2, r3, r4, r5, r6, r7, r8, r9, r10, r11⟩
      go_wp2_with fail
      go_region_held3 (fun w' => w'.cell? ⟨A, off + c * 12, none⟩ = some (.int .u64 (ww3 (q c).1)) ∧ w'.cell? ⟨A, off + c * 12 + 1, none⟩ = some (.int .u64 (ww2 (q c).1)) ∧ w'.cell? ⟨A, off + c * 12 + 2, none⟩ = some (.int .u64 (ww1 (q c).1)) ∧ w'.cell? ⟨A, off + c * 12 + 3, none⟩ = some (.int .u64 (ww0 (q c).1)) ∧ w'.cell? ⟨A, off + c * 12 + 4, none⟩ = some (.int .u64 (ww3 (q c).2.1)) ∧ w'.cell? ⟨A, off + c * 12 + 5, none⟩ = some (.int .u64 (ww2 (q c).2.1)) ∧ w'.cell? ⟨A, off + c * 12 + 6, none⟩ = some (.int .u64 (ww1 (q c).2.1)) ∧ w'.cell? ⟨A, off + c * 12 + 7, none⟩ = some (.int .u64 (ww0 (q c).2.1)) ∧ w'.cell? ⟨A, off + c * 12 + 8, none⟩ = some (.int .u64 (ww3 (q c).2.2)) ∧ w'.cell? ⟨A, off + c * 12 + 9, none⟩ = some (.int .u64 (ww2 (q c).2.2)) ∧ w'.cell? ⟨A, off + c * 12 + 10, none⟩ = some (.int .u64 (ww1 (q c).2.2)) ∧ w'.cell? ⟨A, off + c * 12 + 11, none⟩ = some (.int .u64 (ww0 (q c).2.2)) ∧ w'.cell? ⟨B, of2 + c * 12, none⟩ = some (.int .u64 (ww3 (q c).1)) ∧ w'.cell? ⟨B, of2 + c * 12 + 1, none⟩ = some (.int .u64 (ww2 (q c).1)) ∧ w'.cell? ⟨B, of2 + c * 12 + 2, none⟩ = some (.int .u64 (ww1 (q c).1)) ∧ w'.cell? ⟨B, of2 + c * 12 + 3, none⟩ = some (.int .u64 (ww0 (q c).1)) ∧ w'.cell? ⟨B, of2 + c * 12 + 4, none⟩ = some (.int .u64 (ww3 (q c).2.1)) ∧ w'.cell? ⟨B, of2 + c * 12 + 5, none⟩ = some (.int .u64 (ww2 (q c).2.1)) ∧ w'.cell? ⟨B, of2 + c * 12 + 6, none⟩ = some (.int .u64 (ww1 (q c).2.1)) ∧ w'.cell? ⟨B, of2 + c * 12 + 7, none⟩ = some (.int .u64 (ww0 (q c).2.1)) ∧ w'.cell? ⟨B, of2 + c * 12 + 8, none⟩ = some (.int .u64 (ww3 (q c).2.2)) ∧ w'.cell? ⟨B, of2 + c * 12 + 9, none⟩ = some (.int .u64 (ww2 (q c).2.2)) ∧ w'.cell? ⟨B, of2 + c * 12 + 10, none⟩ = some (.int .u64 (ww1 (q c).2.2)) ∧ w'.cell? ⟨B, of2 + c * 12 + 11, none⟩ = some (.int .u64 (ww0 (q c).2.2))) (first | (exact KS) | (exact KS'))
        (first
          | (go_at_call 12; refine (eqPoint_same (ww3 (q c).1) (ww2 (q c).1) (ww1 (q c).1) (ww0 (q c).1) (ww3 (q c).2.1) (ww2 (q c).2.1) (ww1 (q c).2.1) (ww0 (q c).2.1) (ww3 (q c).2.2) (ww2 (q c).2.2) (ww1 (q c).2.2) (ww0 (q c).2.2) _).mono ?_; rintro e w1 ⟨rfl, hB⟩; have KS' : (fun w' => w'.cell? ⟨A, off + c * 12, none⟩ = some (.int .u64 (ww3 (q c).1)) ∧ w'.cell? ⟨A, off + c * 12 + 1, none⟩ = some (.int .u64 (ww2 (q c).1)) ∧ w'.cell? ⟨A, off + c * 12 + 2, none⟩ = some (.int .u64 (ww1 (q c).1)) ∧ w'.cell? ⟨A, off + c * 12 + 3, none⟩ = some (.int .u64 (ww0 (q c).1)) ∧ w'.cell? ⟨A, off + c * 12 + 4, none⟩ = some (.int .u64 (ww3 (q c).2.1)) ∧ w'.cell? ⟨A, off + c * 12 + 5, none⟩ = some (.int .u64 (ww2 (q c).2.1)) ∧ w'.cell? ⟨A, off + c * 12 + 6, none⟩ = some (.int .u64 (ww1 (q c).2.1)) ∧ w'.cell? ⟨A, off + c * 12 + 7, none⟩ = some (.int .u64 (ww0 (q c).2.1)) ∧ w'.cell? ⟨A, off + c * 12 + 8, none⟩ = some (.int .u64 (ww3 (q c).2.2)) ∧ w'.cell? ⟨A, off + c * 12 + 9, none⟩ = some (.int .u64 (ww2 (q c).2.2)) ∧ w'.cell? ⟨A, off + c * 12 + 10, none⟩ = some (.int .u64 (ww1 (q c).2.2)) ∧ w'.cell? ⟨A, off + c * 12 + 11, none⟩ = some (.int .u64 (ww0 (q c).2.2)) ∧ w'.cell? ⟨B, of2 + c * 12, none⟩ = some (.int .u64 (ww3 (q c).1)) ∧ w'.cell? ⟨B, of2 + c * 12 + 1, none⟩ = some (.int .u64 (ww2 (q c).1)) ∧ w'.cell? ⟨B, of2 + c * 12 + 2, none⟩ = some (.int .u64 (ww1 (q c).1)) ∧ w'.cell? ⟨B, of2 + c * 12 + 3, none⟩ = some (.int .u64 (ww0 (q c).1)) ∧ w'.cell? ⟨B, of2 + c * 12 + 4, none⟩ = some (.int .u64 (ww3 (q c).2.1)) ∧ w'.cell? ⟨B, of2 + c * 12 + 5, none⟩ = some (.int .u64 (ww2 (q c).2.1)) ∧ w'.cell? ⟨B, of2 + c * 12 + 6, none⟩ = some (.int .u64 (ww1 (q c).2.1)) ∧ w'.cell? ⟨B, of2 + c * 12 + 7, none⟩ = some (.int .u64 (ww0 (q c).2.1)) ∧ w'.cell? ⟨B, of2 + c * 12 + 8, none⟩ = some (.int .u64 (ww3 (q c).2.2)) ∧ w'.cell? ⟨B, of2 + c * 12 + 9, none⟩ = some (.int .u64 (ww2 (q c).2.2)) ∧ w'.cell? ⟨B, of2 + c * 12 + 10, none⟩ = some (.int .u64 (ww1 (q c).2.2)) ∧ w'.cell? ⟨B, of2 + c * 12 + 11, none⟩ = some (.int .u64 (ww0 (q c).2.2))) w1 := ⟨(hB.cell (p := ⟨A, _, none⟩) hA).trans q0, (hB.cell (p := ⟨A, _, none⟩) hA).trans q1, (hB.cell (p := ⟨A, _, none⟩) hA).trans q2, (hB.cell (p := ⟨A, _, none⟩) hA).trans q3, (hB.cell (p := ⟨A, _, none⟩) hA).trans q4, (hB.cell (p := ⟨A, _, none⟩) hA).trans q5, (hB.cell (p := ⟨A, _, none⟩) hA).trans q6, (hB.cell (p := ⟨A, _, none⟩) hA).trans q7, (hB.cell (p := ⟨A, _, none⟩) hA).trans q8, (hB.cell (p := ⟨A, _, none⟩) hA).trans q9, (hB.cell (p := ⟨A, _, none⟩) hA).trans q10, (hB.cell (p := ⟨A, _, none⟩) hA).trans q11, (hB.cell (p := ⟨B, _, none⟩) hB').trans r0, (hB.cell (p := ⟨B, _, none⟩) hB').trans r1, (hB.cell (p := ⟨B, _, none⟩) hB').trans r2, (hB.cell (p := ⟨B, _, none⟩) hB').trans r3, (hB.cell (p := ⟨B, _, none⟩) hB').trans r4, (hB.cell (p := ⟨B, _, none⟩) hB').trans r5, (hB.cell (p := ⟨B, _, none⟩) hB').trans r6, (hB.cell (p := ⟨B, _, none⟩) hB').trans r7, (hB.cell (p := ⟨B, _, none⟩) hB').trans r8, (hB.cell (p := ⟨B, _, none⟩) hB').trans r9, (hB.cell (p := ⟨B, _, none⟩) hB').trans r10, (hB.cell (p := ⟨B, _, none⟩) hB').trans r11⟩; (first | (have HB2 := HB.trans (hB.mono HB.size)) | (have HB2 := HB.drew.trans (hB.mono HB.drew.size))); clear hB))
      all_goals clear HB KS q0 r0 q1 r1 q2 r2 q3 r3 q4 r4 q5 r5 q6 r6 q7 r7 q8 r8 q9 r9 q10 r10 q11 r11
      all_goals go_wp2
      all_goals go_roundw
      case rel => exact ⟨c + 1, by omega, by go_num, HB2⟩
      case measure => simp [intOf]; omega
    · obtain rfl : c = n := by omega
      clear HA HC
      go_wp2
      go_ret
      exact ⟨rfl, HB⟩
end Go.Proofs.Ytggfhpnflknhdaa

/- The walk of the model's quotient and rest of numbers with signs. -/
namespace Go.Proofs.Ytggfhpnflknhdaa
open Go.RowKit
theorem num_more {w : World} {s : Bool} {ao : Option Addr} {n cap : Nat} {ds : List Int} {z : Int} {k k' : Nat} (h : IsNum w s ao n cap ds z k) (hk : k ≤ k') : IsNum w s ao n cap ds z k' := ⟨h.neg, h.len, h.cap, h.rd, h.nrm, h.val, Nat.le_trans h.le hk⟩
end Go.Proofs.Ytggfhpnflknhdaa

/- Points: the model's numbers of a point, and whether it is right. -/
namespace Go.Proofs.Ytggfhpnflknhdaa
open Go.RowKit
theorem from_det (x : Int) (hx : told x = true) (w : World) : Calls Try.prog 103 #[W4 x] w (NumP 8 x w) := by
  obtain ⟨p3, p2, p1, p0⟩ := ww_words x
  have h := from_any (ww3 x) (ww2 x) (ww1 x) (ww0 x) p3 p2 p1 p0 w
  rw [ww_sw hx] at h
  exact h
theorem ArgsB.set6g {w W : World} {vss : List (List Value)} (h : ArgsB w W vss) {g : Nat} (hg : w.heap.size + vss.length ≤ g) (v0 v1 v2 v3 v4 v5 : Value) : ArgsB w ((((((W.setCell ⟨g, 0, none⟩ v0).setCell ⟨g, 1, none⟩ v1).setCell ⟨g, 2, none⟩ v2).setCell ⟨g, 3, none⟩ v3).setCell ⟨g, 4, none⟩ v4).setCell ⟨g, 5, none⟩ v5) vss := (((((h.set (by exact hg) _).set (by exact hg) _).set (by exact hg) _).set (by exact hg) _).set (by exact hg) _).set (by exact hg) _
theorem l3o_cells {x y z : Int} {w W : World} (T0 : ArgsB w W [[.int .u64 (ww3 x), .int .u64 (ww2 x), .int .u64 (ww1 x), .int .u64 (ww0 x), .int .u64 (ww3 y), .int .u64 (ww2 y), .int .u64 (ww1 y), .int .u64 (ww0 y), .int .u64 (ww3 z), .int .u64 (ww2 z), .int .u64 (ww1 z), .int .u64 (ww0 z)]]) : (fun w' => w'.cell? ⟨w.heap.size, 0, none⟩ = some (.int .u64 (ww3 x)) ∧ w'.cell? ⟨w.heap.size, 1, none⟩ = some (.int .u64 (ww2 x)) ∧ w'.cell? ⟨w.heap.size, 2, none⟩ = some (.int .u64 (ww1 x)) ∧ w'.cell? ⟨w.heap.size, 3, none⟩ = some (.int .u64 (ww0 x)) ∧ w'.cell? ⟨w.heap.size, 4, none⟩ = some (.int .u64 (ww3 y)) ∧ w'.cell? ⟨w.heap.size, 5, none⟩ = some (.int .u64 (ww2 y)) ∧ w'.cell? ⟨w.heap.size, 6, none⟩ = some (.int .u64 (ww1 y)) ∧ w'.cell? ⟨w.heap.size, 7, none⟩ = some (.int .u64 (ww0 y)) ∧ w'.cell? ⟨w.heap.size, 8, none⟩ = some (.int .u64 (ww3 z)) ∧ w'.cell? ⟨w.heap.size, 9, none⟩ = some (.int .u64 (ww2 z)) ∧ w'.cell? ⟨w.heap.size, 10, none⟩ = some (.int .u64 (ww1 z)) ∧ w'.cell? ⟨w.heap.size, 11, none⟩ = some (.int .u64 (ww0 z))) W := ⟨(T0.b 0 rfl).c 0 rfl, (T0.b 0 rfl).c 1 rfl, (T0.b 0 rfl).c 2 rfl, (T0.b 0 rfl).c 3 rfl, (T0.b 0 rfl).c 4 rfl, (T0.b 0 rfl).c 5 rfl, (T0.b 0 rfl).c 6 rfl, (T0.b 0 rfl).c 7 rfl, (T0.b 0 rfl).c 8 rfl, (T0.b 0 rfl).c 9 rfl, (T0.b 0 rfl).c 10 rfl, (T0.b 0 rfl).c 11 rfl⟩
set_option maxRecDepth 100000 in
set_option maxHeartbeats 2000000 in
theorem l3Of_det (x y z : Int) (hx : told x = true) (hy : told y = true) (hz : told z = true) (w : World) : Calls Try.prog 60 #[PV x y z] w (L3P 8 x y z w) := by
  have T5 : ArgsB w ((w.alloc (.cells #[.int .u64 (ww3 x), .int .u64 (ww2 x), .int .u64 (ww1 x), .int .u64 (ww0 x), .int .u64 (ww3 y), .int .u64 (ww2 y), .int .u64 (ww1 y), .int .u64 (ww0 y), .int .u64 (ww3 z), .int .u64 (ww2 z), .int .u64 (ww1 z), .int .u64 (ww0 z)] 30)).alloc (.cells #[.bool false, .slice none 0 0, .bool false, .slice none 0 0, .bool false, .slice none 0 0] 75)) [[.int .u64 (ww3 x), .int .u64 (ww2 x), .int .u64 (ww1 x), .int .u64 (ww0 x), .int .u64 (ww3 y), .int .u64 (ww2 y), .int .u64 (ww1 y), .int .u64 (ww0 y), .int .u64 (ww3 z), .int .u64 (ww2 z), .int .u64 (ww1 z), .int .u64 (ww0 z)], [.bool false, .slice none 0 0, .bool false, .slice none 0 0, .bool false, .slice none 0 0]] := ar2 _ _ _ _ w
  have R0 := T5.b 1 rfl
  have T0 : ArgsB w _ [[.int .u64 (ww3 x), .int .u64 (ww2 x), .int .u64 (ww1 x), .int .u64 (ww0 x), .int .u64 (ww3 y), .int .u64 (ww2 y), .int .u64 (ww1 y), .int .u64 (ww0 y), .int .u64 (ww3 z), .int .u64 (ww2 z), .int .u64 (ww1 z), .int .u64 (ww0 z)]] := T5.left (vs := [[.bool false, .slice none 0 0, .bool false, .slice none 0 0, .bool false, .slice none 0 0]])
  clear T5
  have F1 := from_det x hx
  have F2 := from_det y hy
  have F3 := from_det z hz
  clear hx hy hz
  have tok1 : True := trivial
  have tok2 : True := trivial
  go_enter Try.func60, Try.ntmps60
  go_upto_region 1 with fail
  generalize ((w.alloc (.cells #[.int .u64 (ww3 x), .int .u64 (ww2 x), .int .u64 (ww1 x), .int .u64 (ww0 x), .int .u64 (ww3 y), .int .u64 (ww2 y), .int .u64 (ww1 y), .int .u64 (ww0 y), .int .u64 (ww3 z), .int .u64 (ww2 z), .int .u64 (ww1 z), .int .u64 (ww0 z)] 30)).alloc (.cells #[.bool false, .slice none 0 0, .bool false, .slice none 0 0, .bool false, .slice none 0 0] 75)) = W at *
  go_region_held3 (fun w' => w'.cell? ⟨w.heap.size, 0, none⟩ = some (.int .u64 (ww3 x)) ∧ w'.cell? ⟨w.heap.size, 1, none⟩ = some (.int .u64 (ww2 x)) ∧ w'.cell? ⟨w.heap.size, 2, none⟩ = some (.int .u64 (ww1 x)) ∧ w'.cell? ⟨w.heap.size, 3, none⟩ = some (.int .u64 (ww0 x)) ∧ w'.cell? ⟨w.heap.size, 4, none⟩ = some (.int .u64 (ww3 y)) ∧ w'.cell? ⟨w.heap.size, 5, none⟩ = some (.int .u64 (ww2 y)) ∧ w'.cell? ⟨w.heap.size, 6, none⟩ = some (.int .u64 (ww1 y)) ∧ w'.cell? ⟨w.heap.size, 7, none⟩ = some (.int .u64 (ww0 y)) ∧ w'.cell? ⟨w.heap.size, 8, none⟩ = some (.int .u64 (ww3 z)) ∧ w'.cell? ⟨w.heap.size, 9, none⟩ = some (.int .u64 (ww2 z)) ∧ w'.cell? ⟨w.heap.size, 10, none⟩ = some (.int .u64 (ww1 z)) ∧ w'.cell? ⟨w.heap.size, 11, none⟩ = some (.int .u64 (ww0 z))) ((refine l3o_cells ?_ <;> repeat (first | (with_reducible exact T0) | (with_reducible refine ArgsB.drew ?_) | (with_reducible refine ArgsB.set6g ?_ (by simp; try omega) _ _ _ _ _ _))))
    (first
      | (go_at_call 103; have _t := tok1; refine (F1 _).mono ?_; rintro e w1 ⟨s1, o1, n1, c1, d1, rfl, N1, hB⟩; (first | (have T1 : ArgsB w w1 [[.int .u64 (ww3 x), .int .u64 (ww2 x), .int .u64 (ww1 x), .int .u64 (ww0 x), .int .u64 (ww3 y), .int .u64 (ww2 y), .int .u64 (ww1 y), .int .u64 (ww0 y), .int .u64 (ww3 z), .int .u64 (ww2 z), .int .u64 (ww1 z), .int .u64 (ww0 z)]] := (by with_reducible exact T0.step hB); have tltw1 := (T0.b 0 rfl).lt; have lR0w1 := R0.lt; replace R0 := R0.step hB; skip) | (have T1 : ArgsB w w1 [[.int .u64 (ww3 x), .int .u64 (ww2 x), .int .u64 (ww1 x), .int .u64 (ww0 x), .int .u64 (ww3 y), .int .u64 (ww2 y), .int .u64 (ww1 y), .int .u64 (ww0 y), .int .u64 (ww3 z), .int .u64 (ww2 z), .int .u64 (ww1 z), .int .u64 (ww0 z)]] := (by with_reducible exact T0.drew.step hB); have tltw1 := (T0.b 0 rfl).lt; have lR0w1 := R0.lt; replace R0 := R0.drew.step hB; skip)); clear T0; have T0 := T1; clear T1; clear hB tok1 _t)
      | (go_at_call 103; have _t := tok2; refine (F2 _).mono ?_; rintro e w2 ⟨s2, o2, n2, c2, d2, rfl, N2, hB⟩; (first | (replace N1 := N1.below hB; skip) | (replace N1 := N1.drew.below hB; skip)); (first | (have T1 : ArgsB w w2 [[.int .u64 (ww3 x), .int .u64 (ww2 x), .int .u64 (ww1 x), .int .u64 (ww0 x), .int .u64 (ww3 y), .int .u64 (ww2 y), .int .u64 (ww1 y), .int .u64 (ww0 y), .int .u64 (ww3 z), .int .u64 (ww2 z), .int .u64 (ww1 z), .int .u64 (ww0 z)]] := (by with_reducible exact T0.step hB); have tltw2 := (T0.b 0 rfl).lt; have lR0w2 := R0.lt; replace R0 := R0.step hB; skip) | (have T1 : ArgsB w w2 [[.int .u64 (ww3 x), .int .u64 (ww2 x), .int .u64 (ww1 x), .int .u64 (ww0 x), .int .u64 (ww3 y), .int .u64 (ww2 y), .int .u64 (ww1 y), .int .u64 (ww0 y), .int .u64 (ww3 z), .int .u64 (ww2 z), .int .u64 (ww1 z), .int .u64 (ww0 z)]] := (by with_reducible exact T0.drew.step hB); have tltw2 := (T0.b 0 rfl).lt; have lR0w2 := R0.lt; replace R0 := R0.drew.step hB; skip)); clear T0; have T0 := T1; clear T1; clear hB tok2 _t)
      | (go_at_call 103; refine (F3 _).mono ?_; rintro e w3 ⟨s3, o3, n3, c3, d3, rfl, N3, hB⟩; (first | (replace N1 := N1.below hB; replace N2 := N2.below hB; skip) | (replace N1 := N1.drew.below hB; replace N2 := N2.drew.below hB; skip)); (first | (have T1 : ArgsB w w3 [[.int .u64 (ww3 x), .int .u64 (ww2 x), .int .u64 (ww1 x), .int .u64 (ww0 x), .int .u64 (ww3 y), .int .u64 (ww2 y), .int .u64 (ww1 y), .int .u64 (ww0 y), .int .u64 (ww3 z), .int .u64 (ww2 z), .int .u64 (ww1 z), .int .u64 (ww0 z)]] := (by with_reducible exact T0.step hB); have tltw3 := (T0.b 0 rfl).lt; have lR0w3 := R0.lt; replace R0 := R0.step hB; skip) | (have T1 : ArgsB w w3 [[.int .u64 (ww3 x), .int .u64 (ww2 x), .int .u64 (ww1 x), .int .u64 (ww0 x), .int .u64 (ww3 y), .int .u64 (ww2 y), .int .u64 (ww1 y), .int .u64 (ww0 y), .int .u64 (ww3 z), .int .u64 (ww2 z), .int .u64 (ww1 z), .int .u64 (ww0 z)]] := (by with_reducible exact T0.drew.step hB); have tltw3 := (T0.b 0 rfl).lt; have lR0w3 := R0.lt; replace R0 := R0.drew.step hB; skip)); clear T0; have T0 := T1; clear T1; clear hB; have rc0 := R0.c 0 rfl; have rf0 := R0.f 0 rfl; have rc1 := R0.c 1 rfl; have rf1 := R0.f 1 rfl; have rc2 := R0.c 2 rfl; have rf2 := R0.f 2 rfl; have rc3 := R0.c 3 rfl; have rf3 := R0.f 3 rfl; have rc4 := R0.c 4 rfl; have rf4 := R0.f 4 rfl; have rc5 := R0.c 5 rfl; have rf5 := R0.f 5 rfl; have rl := R0.lt))
  all_goals have HB := T0.below
  all_goals have M1 := num_set6 N1 R0 (.bool s1) (.slice o1 n1 c1) (.bool s2) (.slice o2 n2 c2) (.bool s3) (.slice o3 n3 c3)
  all_goals have M2 := num_set6 N2 R0 (.bool s1) (.slice o1 n1 c1) (.bool s2) (.slice o2 n2 c2) (.bool s3) (.slice o3 n3 c3)
  all_goals have M3 := num_set6 N3 R0 (.bool s1) (.slice o1 n1 c1) (.bool s2) (.slice o2 n2 c2) (.bool s3) (.slice o3 n3 c3)
  all_goals clear T0 R0 N1 N2 N3 F1 F2 F3
  all_goals go_wp2
  all_goals refine bodyPost_ret (v := .agg #[.bool s1, .slice o1 n1 c1, .bool s2, .slice o2 n2 c2, .bool s3, .slice o3 n3 c3]) (by simp [results, Try.results60, go_sem, rc0, rc1, rc2, rc3, rc4, rc5]) rfl ?_
  all_goals refine ⟨s1, o1, n1, c1, d1, s2, o2, n2, c2, d2, s3, o3, n3, c3, d3, rfl, by first | exact M1 | exact M1.drew, by first | exact M2 | exact M2.drew, by first | exact M3 | exact M3.drew, ?_⟩
  all_goals repeat' (refine Below.setCell ?_ (by simp; try omega) _)
  all_goals first | exact HB | exact HB.drew
end Go.Proofs.Ytggfhpnflknhdaa
