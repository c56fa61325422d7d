/- Part 7 of the walks that the proof leans on. -/
import Derived.Test.YtnnojeggjnddpaaPart6
import Derived.Deep.RegionHeld3
import Derived.Deep.RegionWith
import Derived.Test.YtnnojeggjnddpaaPart3
import Derived.Test.YtnnojeggjnddpaaPart4
import Derived.Lib.Bytealg
import Derived.WalkLawsBesides
import Derived.Lib.Strings
/- Points: what three numbers have in common. -/
namespace Go.Proofs.Ytnnojeggjnddpaa
open Go.RowKit
theorem cut3_new {w X : World} {vss : List (List Value)} {rs zs : List Value} {T : TypeId} {g : Nat} (h : ArgsB w X vss) (hl : w.heap.size + vss.length ≤ X.heap.size) (R : Blk X g zs) : CutB w (X.alloc (.cells rs.toArray T)) vss rs (.pointer (some ⟨X.heap.size, 0, none⟩)) ∧ Blk (X.alloc (.cells rs.toArray T)) g zs ∧ (Value.pointer (some ⟨X.heap.size, 0, none⟩)) ≠ .pointer (some ⟨g, 0, none⟩) := by
  refine ⟨cutB_new h hl, R.alloc _, ?_⟩
  intro he
  have := R.lt
  simp at he <;> omega
theorem cut3_set8 {w X : World} {vss : List (List Value)} {zs : List Value} {v0 v1 v2 v3 v4 v5 v6 v7 z0 z1 z2 z3 z4 z5 z6 z7 : Value} {g g' : Nat} (h : ArgsB w X vss) (G : Blk X g [z0, z1, z2, z3, z4, z5, z6, z7]) (hg : w.heap.size + vss.length ≤ g) (R : Blk X g' zs) (hne : g' < g) : CutB w ((((((((X.setCell ⟨g, 0, none⟩ v0).setCell ⟨g, 1, none⟩ v1).setCell ⟨g, 2, none⟩ v2).setCell ⟨g, 3, none⟩ v3).setCell ⟨g, 4, none⟩ v4).setCell ⟨g, 5, none⟩ v5).setCell ⟨g, 6, none⟩ v6).setCell ⟨g, 7, none⟩ v7) vss [v0, v1, v2, v3, v4, v5, v6, v7] (.pointer (some ⟨g, 0, none⟩)) ∧ Blk ((((((((X.setCell ⟨g, 0, none⟩ v0).setCell ⟨g, 1, none⟩ v1).setCell ⟨g, 2, none⟩ v2).setCell ⟨g, 3, none⟩ v3).setCell ⟨g, 4, none⟩ v4).setCell ⟨g, 5, none⟩ v5).setCell ⟨g, 6, none⟩ v6).setCell ⟨g, 7, none⟩ v7) g' zs ∧ (Value.pointer (some ⟨g, 0, none⟩)) ≠ .pointer (some ⟨g', 0, none⟩) := by
  refine ⟨cutB_set8 h G hg, R.set8 (by omega), ?_⟩
  intro he
  simp at he <;> omega
theorem c3_cells {x y z : Int} {w W : World} (T0 : ArgsB w W [[.int .u64 (ww3 x), .int .u64 (ww2 x), .int .u64 (ww1 x), .int .u64 (ww0 x)], [.int .u64 (ww3 y), .int .u64 (ww2 y), .int .u64 (ww1 y), .int .u64 (ww0 y)], [.int .u64 (ww3 z), .int .u64 (ww2 z), .int .u64 (ww1 z), .int .u64 (ww0 z)]]) : (fun w' => w'.cell? ⟨w.heap.size, 0, none⟩ = some (.int .u64 (ww3 x)) ∧ w'.cell? ⟨w.heap.size, 1, none⟩ = some (.int .u64 (ww2 x)) ∧ w'.cell? ⟨w.heap.size, 2, none⟩ = some (.int .u64 (ww1 x)) ∧ w'.cell? ⟨w.heap.size, 3, none⟩ = some (.int .u64 (ww0 x)) ∧ w'.cell? ⟨w.heap.size + 1, 0, none⟩ = some (.int .u64 (ww3 y)) ∧ w'.cell? ⟨w.heap.size + 1, 1, none⟩ = some (.int .u64 (ww2 y)) ∧ w'.cell? ⟨w.heap.size + 1, 2, none⟩ = some (.int .u64 (ww1 y)) ∧ w'.cell? ⟨w.heap.size + 1, 3, none⟩ = some (.int .u64 (ww0 y)) ∧ w'.cell? ⟨w.heap.size + 2, 0, none⟩ = some (.int .u64 (ww3 z)) ∧ w'.cell? ⟨w.heap.size + 2, 1, none⟩ = some (.int .u64 (ww2 z)) ∧ w'.cell? ⟨w.heap.size + 2, 2, none⟩ = some (.int .u64 (ww1 z)) ∧ w'.cell? ⟨w.heap.size + 2, 3, none⟩ = some (.int .u64 (ww0 z))) W := ⟨(T0.b 0 rfl).c 0 rfl, (T0.b 0 rfl).c 1 rfl, (T0.b 0 rfl).c 2 rfl, (T0.b 0 rfl).c 3 rfl, (T0.b 1 rfl).c 0 rfl, (T0.b 1 rfl).c 1 rfl, (T0.b 1 rfl).c 2 rfl, (T0.b 1 rfl).c 3 rfl, (T0.b 2 rfl).c 0 rfl, (T0.b 2 rfl).c 1 rfl, (T0.b 2 rfl).c 2 rfl, (T0.b 2 rfl).c 3 rfl⟩
theorem c3_cells2 {x y z g : Int} {w W : World} {gc : Nat} (T0 : ArgsB w W [[.int .u64 (ww3 x), .int .u64 (ww2 x), .int .u64 (ww1 x), .int .u64 (ww0 x)], [.int .u64 (ww3 y), .int .u64 (ww2 y), .int .u64 (ww1 y), .int .u64 (ww0 y)], [.int .u64 (ww3 z), .int .u64 (ww2 z), .int .u64 (ww1 z), .int .u64 (ww0 z)]]) (GC : Blk W gc [.int .u64 (lw0 g), .int .u64 (lw1 g), .int .u64 (lw2 g), .int .u64 (lw3 g), .int .u64 (lw4 g), .int .u64 (lw5 g), .int .u64 (lw6 g), .int .u64 (lw7 g)]) : (fun w' => w'.cell? ⟨w.heap.size + 1, 0, none⟩ = some (.int .u64 (ww3 y)) ∧ w'.cell? ⟨w.heap.size + 1, 1, none⟩ = some (.int .u64 (ww2 y)) ∧ w'.cell? ⟨w.heap.size + 1, 2, none⟩ = some (.int .u64 (ww1 y)) ∧ w'.cell? ⟨w.heap.size + 1, 3, none⟩ = some (.int .u64 (ww0 y)) ∧ w'.cell? ⟨gc, 0, none⟩ = some (.int .u64 (lw0 g)) ∧ w'.cell? ⟨gc, 1, none⟩ = some (.int .u64 (lw1 g)) ∧ w'.cell? ⟨gc, 2, none⟩ = some (.int .u64 (lw2 g)) ∧ w'.cell? ⟨gc, 3, none⟩ = some (.int .u64 (lw3 g)) ∧ w'.cell? ⟨gc, 4, none⟩ = some (.int .u64 (lw4 g)) ∧ w'.cell? ⟨gc, 5, none⟩ = some (.int .u64 (lw5 g)) ∧ w'.cell? ⟨gc, 6, none⟩ = some (.int .u64 (lw6 g)) ∧ w'.cell? ⟨gc, 7, none⟩ = some (.int .u64 (lw7 g))) W := ⟨(T0.b 1 rfl).c 0 rfl, (T0.b 1 rfl).c 1 rfl, (T0.b 1 rfl).c 2 rfl, (T0.b 1 rfl).c 3 rfl, GC.c 0 rfl, GC.c 1 rfl, GC.c 2 rfl, GC.c 3 rfl, GC.c 4 rfl, GC.c 5 rfl, GC.c 6 rfl, GC.c 7 rfl⟩
set_option maxRecDepth 100000 in
set_option maxHeartbeats 2000000 in
theorem common3_det (x y z : Int) (hx : told x = true) (hy : told y = true) (hz : told z = true) (w : World) : Calls Try.prog 98 #[W4 x, W4 y, W4 z] w (VP (LV (Int.gcd (y.natAbs : Int) (Int.gcd (x.natAbs : Int) (z.natAbs : Int) : Int) : Int)) w) := by
  have T5 : ArgsB w ((((w.alloc (.cells #[.int .u64 (ww3 x), .int .u64 (ww2 x), .int .u64 (ww1 x), .int .u64 (ww0 x)] 26)).alloc (.cells #[.int .u64 (ww3 y), .int .u64 (ww2 y), .int .u64 (ww1 y), .int .u64 (ww0 y)] 26)).alloc (.cells #[.int .u64 (ww3 z), .int .u64 (ww2 z), .int .u64 (ww1 z), .int .u64 (ww0 z)] 26)).alloc (.cells #[.int .u64 0, .int .u64 0, .int .u64 0, .int .u64 0, .int .u64 0, .int .u64 0, .int .u64 0, .int .u64 0] 82)) [[.int .u64 (ww3 x), .int .u64 (ww2 x), .int .u64 (ww1 x), .int .u64 (ww0 x)], [.int .u64 (ww3 y), .int .u64 (ww2 y), .int .u64 (ww1 y), .int .u64 (ww0 y)], [.int .u64 (ww3 z), .int .u64 (ww2 z), .int .u64 (ww1 z), .int .u64 (ww0 z)], [.int .u64 0, .int .u64 0, .int .u64 0, .int .u64 0, .int .u64 0, .int .u64 0, .int .u64 0, .int .u64 0]] := ar4 _ _ _ _ _ _ _ _ w
  have R0 := T5.b 3 rfl
  have T0 : ArgsB w _ [[.int .u64 (ww3 x), .int .u64 (ww2 x), .int .u64 (ww1 x), .int .u64 (ww0 x)], [.int .u64 (ww3 y), .int .u64 (ww2 y), .int .u64 (ww1 y), .int .u64 (ww0 y)], [.int .u64 (ww3 z), .int .u64 (ww2 z), .int .u64 (ww1 z), .int .u64 (ww0 z)]] := T5.left (vs := [[.int .u64 0, .int .u64 0, .int .u64 0, .int .u64 0, .int .u64 0, .int .u64 0, .int .u64 0, .int .u64 0]])
  clear T5
  have A1 := longOf_det x hx
  have A2 := longOf_det z hz
  have A3 := longOf_det y hy
  have tx := told_abs hx
  have ty := told_abs hy
  have tz := told_abs hz
  have B1 := size_det x (told_lr hx) (by omega)
  have B2 := size_det z (told_lr hz) (by omega)
  have B3 := size_det y (told_lr hy) (by omega)
  have gb := gcd_le x.natAbs z.natAbs 57896044618658097711785492504343953926634992332820282019728792003956564819968 (by omega) (by omega)
  have gb2 := gcd_le y.natAbs (Int.gcd (x.natAbs : Int) (z.natAbs : Int)) 57896044618658097711785492504343953926634992332820282019728792003956564819968 (by omega) (by omega)
  have C1 := gcd_det (x.natAbs : Int) (z.natAbs : Int) ⟨by omega, by omega⟩ ⟨by omega, by omega⟩ (by omega)
  have C2 := gcd_det (y.natAbs : Int) (Int.gcd (x.natAbs : Int) (z.natAbs : Int) : Int) ⟨by omega, by omega⟩ ⟨by omega, by omega⟩ (by omega)
  clear gb gb2 tx ty tz hx hy hz
  generalize ((Int.gcd (y.natAbs : Int) (Int.gcd (x.natAbs : Int) (z.natAbs : Int) : Int) : Nat) : Int) = q at *
  generalize ((Int.gcd (x.natAbs : Int) (z.natAbs : Int) : Nat) : Int) = g at *
  generalize (x.natAbs : Int) = ax at *
  generalize (y.natAbs : Int) = ay at *
  generalize (z.natAbs : Int) = az at *
  have tok1 : True := trivial
  have tok2 : True := trivial
  go_enter Try.func98, Try.ntmps98
  go_upto_region 1 with fail
  generalize ((((w.alloc (.cells #[.int .u64 (ww3 x), .int .u64 (ww2 x), .int .u64 (ww1 x), .int .u64 (ww0 x)] 26)).alloc (.cells #[.int .u64 (ww3 y), .int .u64 (ww2 y), .int .u64 (ww1 y), .int .u64 (ww0 y)] 26)).alloc (.cells #[.int .u64 (ww3 z), .int .u64 (ww2 z), .int .u64 (ww1 z), .int .u64 (ww0 z)] 26)).alloc (.cells #[.int .u64 0, .int .u64 0, .int .u64 0, .int .u64 0, .int .u64 0, .int .u64 0, .int .u64 0, .int .u64 0] 82)) = W at *
  have hlw := R0.lt
  have hlt := (T0.b 2 rfl).lt
  go_cut [7] (fun p wx => CutB w wx [[.int .u64 (ww3 x), .int .u64 (ww2 x), .int .u64 (ww1 x), .int .u64 (ww0 x)], [.int .u64 (ww3 y), .int .u64 (ww2 y), .int .u64 (ww1 y), .int .u64 (ww0 y)], [.int .u64 (ww3 z), .int .u64 (ww2 z), .int .u64 (ww1 z), .int .u64 (ww0 z)]] [.int .u64 (lw0 g), .int .u64 (lw1 g), .int .u64 (lw2 g), .int .u64 (lw3 g), .int .u64 (lw4 g), .int .u64 (lw5 g), .int .u64 (lw6 g), .int .u64 (lw7 g)] p ∧ Blk wx (w.heap.size + 3) [.int .u64 0, .int .u64 0, .int .u64 0, .int .u64 0, .int .u64 0, .int .u64 0, .int .u64 0, .int .u64 0] ∧ p ≠ .pointer (some ⟨w.heap.size + 3, 0, none⟩))
  case first =>
    go_region_held3 (fun w' => w'.cell? ⟨w.heap.size, 0, none⟩ = some (.int .u64 (ww3 x)) ∧ w'.cell? ⟨w.heap.size, 1, none⟩ = some (.int .u64 (ww2 x)) ∧ w'.cell? ⟨w.heap.size, 2, none⟩ = some (.int .u64 (ww1 x)) ∧ w'.cell? ⟨w.heap.size, 3, none⟩ = some (.int .u64 (ww0 x)) ∧ w'.cell? ⟨w.heap.size + 1, 0, none⟩ = some (.int .u64 (ww3 y)) ∧ w'.cell? ⟨w.heap.size + 1, 1, none⟩ = some (.int .u64 (ww2 y)) ∧ w'.cell? ⟨w.heap.size + 1, 2, none⟩ = some (.int .u64 (ww1 y)) ∧ w'.cell? ⟨w.heap.size + 1, 3, none⟩ = some (.int .u64 (ww0 y)) ∧ w'.cell? ⟨w.heap.size + 2, 0, none⟩ = some (.int .u64 (ww3 z)) ∧ w'.cell? ⟨w.heap.size + 2, 1, none⟩ = some (.int .u64 (ww2 z)) ∧ w'.cell? ⟨w.heap.size + 2, 2, none⟩ = some (.int .u64 (ww1 z)) ∧ w'.cell? ⟨w.heap.size + 2, 3, none⟩ = some (.int .u64 (ww0 z))) ((refine c3_cells ?_ <;> repeat (first | (with_reducible exact T0) | (with_reducible refine ArgsB.drew ?_) | (with_reducible refine ArgsB.alloc ?_ _) | (with_reducible refine ArgsB.set8g ?_ (by simp; omega) _ _ _ _ _ _ _ _))))
      (first
        | (go_at_call 89; have _t := tok1; refine (A1 _).mono ?_; rintro e w1 ⟨rfl, hB⟩; (first | (have T1 : ArgsB w w1 _ := (by with_reducible exact T0.step hB); have tltw1 := (T0.b 2 rfl).lt; have lR0w1 := R0.lt; replace R0 := R0.step hB; (try (replace G0 := G0.step hB; obtain ⟨j0c, j0f, j1c, j1f, j2c, j2f, j3c, j3f, j4c, j4f, j5c, j5f, j6c, j6f, j7c, j7f⟩ := G0.cf8; have jlt := G0.lt))) | (have T1 : ArgsB w w1 _ := (by with_reducible exact T0.drew.step hB); have tltw1 := (T0.b 2 rfl).lt; have lR0w1 := R0.lt; replace R0 := R0.drew.step hB; (try (replace G0 := G0.drew.step hB; obtain ⟨j0c, j0f, j1c, j1f, j2c, j2f, j3c, j3f, j4c, j4f, j5c, j5f, j6c, j6f, j7c, j7f⟩ := G0.cf8; have jlt := G0.lt))) | (have T1 : ArgsB w w1 _ := (by with_reducible exact (T0.alloc _).step hB); have tltw1 := (T0.b 2 rfl).lt; have lR0w1 := R0.lt; replace R0 := (R0.alloc _).step hB; (have G0 := (Blk.new _ [.int .u64 0, .int .u64 0, .int .u64 0, .int .u64 0, .int .u64 0, .int .u64 0, .int .u64 0, .int .u64 0] _ rfl).step hB; obtain ⟨j0c, j0f, j1c, j1f, j2c, j2f, j3c, j3f, j4c, j4f, j5c, j5f, j6c, j6f, j7c, j7f⟩ := G0.cf8; have jlt := G0.lt)) | (have T1 : ArgsB w w1 _ := (by with_reducible exact (T0.alloc _).drew.step hB); have tltw1 := (T0.b 2 rfl).lt; have lR0w1 := R0.lt; replace R0 := (R0.alloc _).drew.step hB; (have G0 := (Blk.new _ [.int .u64 0, .int .u64 0, .int .u64 0, .int .u64 0, .int .u64 0, .int .u64 0, .int .u64 0, .int .u64 0] _ rfl).drew.step hB; obtain ⟨j0c, j0f, j1c, j1f, j2c, j2f, j3c, j3f, j4c, j4f, j5c, j5f, j6c, j6f, j7c, j7f⟩ := G0.cf8; have jlt := G0.lt))); clear T0; have T0 := T1; clear T1; clear hB; clear tok1 _t)
        | (go_at_call 89; refine (A2 _).mono ?_; rintro e w2 ⟨rfl, hB⟩; (first | (have T1 : ArgsB w w2 _ := (by with_reducible exact T0.step hB); have tltw2 := (T0.b 2 rfl).lt; have lR0w2 := R0.lt; replace R0 := R0.step hB; (try (replace G0 := G0.step hB; obtain ⟨j0c, j0f, j1c, j1f, j2c, j2f, j3c, j3f, j4c, j4f, j5c, j5f, j6c, j6f, j7c, j7f⟩ := G0.cf8; have jlt := G0.lt))) | (have T1 : ArgsB w w2 _ := (by with_reducible exact T0.drew.step hB); have tltw2 := (T0.b 2 rfl).lt; have lR0w2 := R0.lt; replace R0 := R0.drew.step hB; (try (replace G0 := G0.drew.step hB; obtain ⟨j0c, j0f, j1c, j1f, j2c, j2f, j3c, j3f, j4c, j4f, j5c, j5f, j6c, j6f, j7c, j7f⟩ := G0.cf8; have jlt := G0.lt))) | (have T1 : ArgsB w w2 _ := (by with_reducible exact (T0.alloc _).step hB); have tltw2 := (T0.b 2 rfl).lt; have lR0w2 := R0.lt; replace R0 := (R0.alloc _).step hB; (have G0 := (Blk.new _ [.int .u64 0, .int .u64 0, .int .u64 0, .int .u64 0, .int .u64 0, .int .u64 0, .int .u64 0, .int .u64 0] _ rfl).step hB; obtain ⟨j0c, j0f, j1c, j1f, j2c, j2f, j3c, j3f, j4c, j4f, j5c, j5f, j6c, j6f, j7c, j7f⟩ := G0.cf8; have jlt := G0.lt)) | (have T1 : ArgsB w w2 _ := (by with_reducible exact (T0.alloc _).drew.step hB); have tltw2 := (T0.b 2 rfl).lt; have lR0w2 := R0.lt; replace R0 := (R0.alloc _).drew.step hB; (have G0 := (Blk.new _ [.int .u64 0, .int .u64 0, .int .u64 0, .int .u64 0, .int .u64 0, .int .u64 0, .int .u64 0, .int .u64 0] _ rfl).drew.step hB; obtain ⟨j0c, j0f, j1c, j1f, j2c, j2f, j3c, j3f, j4c, j4f, j5c, j5f, j6c, j6f, j7c, j7f⟩ := G0.cf8; have jlt := G0.lt))); clear T0; have T0 := T1; clear T1; clear hB)
        | (go_at_call 115; have _t := tok2; refine (B1 _).mono ?_; rintro e w3 ⟨rfl, hB⟩; (first | (have T1 : ArgsB w w3 _ := (by with_reducible exact T0.step hB); have tltw3 := (T0.b 2 rfl).lt; have lR0w3 := R0.lt; replace R0 := R0.step hB; (try (replace G0 := G0.step hB; obtain ⟨j0c, j0f, j1c, j1f, j2c, j2f, j3c, j3f, j4c, j4f, j5c, j5f, j6c, j6f, j7c, j7f⟩ := G0.cf8; have jlt := G0.lt))) | (have T1 : ArgsB w w3 _ := (by with_reducible exact T0.drew.step hB); have tltw3 := (T0.b 2 rfl).lt; have lR0w3 := R0.lt; replace R0 := R0.drew.step hB; (try (replace G0 := G0.drew.step hB; obtain ⟨j0c, j0f, j1c, j1f, j2c, j2f, j3c, j3f, j4c, j4f, j5c, j5f, j6c, j6f, j7c, j7f⟩ := G0.cf8; have jlt := G0.lt))) | (have T1 : ArgsB w w3 _ := (by with_reducible exact (T0.alloc _).step hB); have tltw3 := (T0.b 2 rfl).lt; have lR0w3 := R0.lt; replace R0 := (R0.alloc _).step hB; (have G0 := (Blk.new _ [.int .u64 0, .int .u64 0, .int .u64 0, .int .u64 0, .int .u64 0, .int .u64 0, .int .u64 0, .int .u64 0] _ rfl).step hB; obtain ⟨j0c, j0f, j1c, j1f, j2c, j2f, j3c, j3f, j4c, j4f, j5c, j5f, j6c, j6f, j7c, j7f⟩ := G0.cf8; have jlt := G0.lt)) | (have T1 : ArgsB w w3 _ := (by with_reducible exact (T0.alloc _).drew.step hB); have tltw3 := (T0.b 2 rfl).lt; have lR0w3 := R0.lt; replace R0 := (R0.alloc _).drew.step hB; (have G0 := (Blk.new _ [.int .u64 0, .int .u64 0, .int .u64 0, .int .u64 0, .int .u64 0, .int .u64 0, .int .u64 0, .int .u64 0] _ rfl).drew.step hB; obtain ⟨j0c, j0f, j1c, j1f, j2c, j2f, j3c, j3f, j4c, j4f, j5c, j5f, j6c, j6f, j7c, j7f⟩ := G0.cf8; have jlt := G0.lt))); clear T0; have T0 := T1; clear T1; clear hB; clear tok2 _t)
        | (go_at_call 115; refine (B2 _).mono ?_; rintro e w4 ⟨rfl, hB⟩; (first | (have T1 : ArgsB w w4 _ := (by with_reducible exact T0.step hB); have tltw4 := (T0.b 2 rfl).lt; have lR0w4 := R0.lt; replace R0 := R0.step hB; (try (replace G0 := G0.step hB; obtain ⟨j0c, j0f, j1c, j1f, j2c, j2f, j3c, j3f, j4c, j4f, j5c, j5f, j6c, j6f, j7c, j7f⟩ := G0.cf8; have jlt := G0.lt))) | (have T1 : ArgsB w w4 _ := (by with_reducible exact T0.drew.step hB); have tltw4 := (T0.b 2 rfl).lt; have lR0w4 := R0.lt; replace R0 := R0.drew.step hB; (try (replace G0 := G0.drew.step hB; obtain ⟨j0c, j0f, j1c, j1f, j2c, j2f, j3c, j3f, j4c, j4f, j5c, j5f, j6c, j6f, j7c, j7f⟩ := G0.cf8; have jlt := G0.lt))) | (have T1 : ArgsB w w4 _ := (by with_reducible exact (T0.alloc _).step hB); have tltw4 := (T0.b 2 rfl).lt; have lR0w4 := R0.lt; replace R0 := (R0.alloc _).step hB; (have G0 := (Blk.new _ [.int .u64 0, .int .u64 0, .int .u64 0, .int .u64 0, .int .u64 0, .int .u64 0, .int .u64 0, .int .u64 0] _ rfl).step hB; obtain ⟨j0c, j0f, j1c, j1f, j2c, j2f, j3c, j3f, j4c, j4f, j5c, j5f, j6c, j6f, j7c, j7f⟩ := G0.cf8; have jlt := G0.lt)) | (have T1 : ArgsB w w4 _ := (by with_reducible exact (T0.alloc _).drew.step hB); have tltw4 := (T0.b 2 rfl).lt; have lR0w4 := R0.lt; replace R0 := (R0.alloc _).drew.step hB; (have G0 := (Blk.new _ [.int .u64 0, .int .u64 0, .int .u64 0, .int .u64 0, .int .u64 0, .int .u64 0, .int .u64 0, .int .u64 0] _ rfl).drew.step hB; obtain ⟨j0c, j0f, j1c, j1f, j2c, j2f, j3c, j3f, j4c, j4f, j5c, j5f, j6c, j6f, j7c, j7f⟩ := G0.cf8; have jlt := G0.lt))); clear T0; have T0 := T1; clear T1; clear hB)
        | (go_at_call 114; refine (C1 _).mono ?_; rintro e w5 ⟨rfl, hB⟩; (first | (have T1 : ArgsB w w5 _ := (by with_reducible exact T0.step hB); have tltw5 := (T0.b 2 rfl).lt; have lR0w5 := R0.lt; replace R0 := R0.step hB; (try (replace G0 := G0.step hB; obtain ⟨j0c, j0f, j1c, j1f, j2c, j2f, j3c, j3f, j4c, j4f, j5c, j5f, j6c, j6f, j7c, j7f⟩ := G0.cf8; have jlt := G0.lt))) | (have T1 : ArgsB w w5 _ := (by with_reducible exact T0.drew.step hB); have tltw5 := (T0.b 2 rfl).lt; have lR0w5 := R0.lt; replace R0 := R0.drew.step hB; (try (replace G0 := G0.drew.step hB; obtain ⟨j0c, j0f, j1c, j1f, j2c, j2f, j3c, j3f, j4c, j4f, j5c, j5f, j6c, j6f, j7c, j7f⟩ := G0.cf8; have jlt := G0.lt))) | (have T1 : ArgsB w w5 _ := (by with_reducible exact (T0.alloc _).step hB); have tltw5 := (T0.b 2 rfl).lt; have lR0w5 := R0.lt; replace R0 := (R0.alloc _).step hB; (have G0 := (Blk.new _ [.int .u64 0, .int .u64 0, .int .u64 0, .int .u64 0, .int .u64 0, .int .u64 0, .int .u64 0, .int .u64 0] _ rfl).step hB; obtain ⟨j0c, j0f, j1c, j1f, j2c, j2f, j3c, j3f, j4c, j4f, j5c, j5f, j6c, j6f, j7c, j7f⟩ := G0.cf8; have jlt := G0.lt)) | (have T1 : ArgsB w w5 _ := (by with_reducible exact (T0.alloc _).drew.step hB); have tltw5 := (T0.b 2 rfl).lt; have lR0w5 := R0.lt; replace R0 := (R0.alloc _).drew.step hB; (have G0 := (Blk.new _ [.int .u64 0, .int .u64 0, .int .u64 0, .int .u64 0, .int .u64 0, .int .u64 0, .int .u64 0, .int .u64 0] _ rfl).drew.step hB; obtain ⟨j0c, j0f, j1c, j1f, j2c, j2f, j3c, j3f, j4c, j4f, j5c, j5f, j6c, j6f, j7c, j7f⟩ := G0.cf8; have jlt := G0.lt))); clear T0; have T0 := T1; clear T1; clear hB))
    all_goals go_wp2_with fail
    all_goals go_meet
    all_goals have hl : w.heap.size + ([[.int .u64 (ww3 x), .int .u64 (ww2 x), .int .u64 (ww1 x), .int .u64 (ww0 x)], [.int .u64 (ww3 y), .int .u64 (ww2 y), .int .u64 (ww1 y), .int .u64 (ww0 y)], [.int .u64 (ww3 z), .int .u64 (ww2 z), .int .u64 (ww1 z), .int .u64 (ww0 z)]] : List (List Value)).length ≤ w5.heap.size := (T0.b 2 rfl).lt
    all_goals have hr := R0.lt
    all_goals first | (with_reducible exact cut3_new T0 hl R0) | (with_reducible exact cut3_set8 T0 G0 (by simp; omega) R0 (by omega))
  case rest =>
    clear T0 R0 tok1 tok2 A1 A2 B1 B2 C1 hlw hlt
    obtain ⟨⟨gc, hp, hgc, T0, GC⟩, R0, hne⟩ := hcut
    subst hp
    simp at hgc hne
    go_upto_region 2 with fail
    go_region_held3 (fun w' => w'.cell? ⟨w.heap.size + 1, 0, none⟩ = some (.int .u64 (ww3 y)) ∧ w'.cell? ⟨w.heap.size + 1, 1, none⟩ = some (.int .u64 (ww2 y)) ∧ w'.cell? ⟨w.heap.size + 1, 2, none⟩ = some (.int .u64 (ww1 y)) ∧ w'.cell? ⟨w.heap.size + 1, 3, none⟩ = some (.int .u64 (ww0 y)) ∧ w'.cell? ⟨gc, 0, none⟩ = some (.int .u64 (lw0 g)) ∧ w'.cell? ⟨gc, 1, none⟩ = some (.int .u64 (lw1 g)) ∧ w'.cell? ⟨gc, 2, none⟩ = some (.int .u64 (lw2 g)) ∧ w'.cell? ⟨gc, 3, none⟩ = some (.int .u64 (lw3 g)) ∧ w'.cell? ⟨gc, 4, none⟩ = some (.int .u64 (lw4 g)) ∧ w'.cell? ⟨gc, 5, none⟩ = some (.int .u64 (lw5 g)) ∧ w'.cell? ⟨gc, 6, none⟩ = some (.int .u64 (lw6 g)) ∧ w'.cell? ⟨gc, 7, none⟩ = some (.int .u64 (lw7 g))) ((refine c3_cells2 (x := x) (z := z) ?_ ?_ <;> repeat (first | (with_reducible exact T0) | (with_reducible exact GC) | (with_reducible refine ArgsB.drew ?_) | (with_reducible refine Blk.drew ?_) | (with_reducible refine ArgsB.set8g ?_ (by simp; try omega) _ _ _ _ _ _ _ _) | (with_reducible refine Blk.set8 ?_ (by omega)))))
      (first
        | (go_at_call 89; refine (A3 _).mono ?_; rintro e w1 ⟨rfl, hB⟩; (first | (have T1 : ArgsB w w1 _ := (by with_reducible exact T0.step hB); have tltw1 := (T0.b 2 rfl).lt; have lR0w1 := R0.lt; replace R0 := R0.step hB; have lGCw1 := GC.lt; replace GC := GC.step hB; skip) | (have T1 : ArgsB w w1 _ := (by with_reducible exact T0.drew.step hB); have tltw1 := (T0.b 2 rfl).lt; have lR0w1 := R0.lt; replace R0 := R0.drew.step hB; have lGCw1 := GC.lt; replace GC := GC.drew.step hB; skip)); clear T0; have T0 := T1; clear T1; clear hB)
        | (go_at_call 115; refine (B3 _).mono ?_; rintro e w2 ⟨rfl, hB⟩; (first | (have T1 : ArgsB w w2 _ := (by with_reducible exact T0.step hB); have tltw2 := (T0.b 2 rfl).lt; have lR0w2 := R0.lt; replace R0 := R0.step hB; have lGCw2 := GC.lt; replace GC := GC.step hB; skip) | (have T1 : ArgsB w w2 _ := (by with_reducible exact T0.drew.step hB); have tltw2 := (T0.b 2 rfl).lt; have lR0w2 := R0.lt; replace R0 := R0.drew.step hB; have lGCw2 := GC.lt; replace GC := GC.drew.step hB; skip)); clear T0; have T0 := T1; clear T1; clear hB)
        | (go_at_call 114; refine (C2 _).mono ?_; rintro e w3 ⟨rfl, hB⟩; (first | (have T1 : ArgsB w w3 _ := (by with_reducible exact T0.step hB); have tltw3 := (T0.b 2 rfl).lt; have lR0w3 := R0.lt; replace R0 := R0.step hB; have lGCw3 := GC.lt; replace GC := GC.step hB; skip) | (have T1 : ArgsB w w3 _ := (by with_reducible exact T0.drew.step hB); have tltw3 := (T0.b 2 rfl).lt; have lR0w3 := R0.lt; replace R0 := R0.drew.step hB; have lGCw3 := GC.lt; replace GC := GC.drew.step hB; skip)); clear T0; have T0 := T1; clear T1; clear hB; obtain ⟨rc0, rf0, rc1, rf1, rc2, rf2, rc3, rf3, rc4, rf4, rc5, rf5, rc6, rf6, rc7, rf7⟩ := R0.cf8; have rl := R0.lt))
    all_goals have HB := T0.below
    all_goals clear T0 GC R0
    all_goals go_wp2
    all_goals refine bodyPost_ret (v := LV q) (by simp [results, Try.results98, go_sem, rc0, rc1, rc2, rc3, rc4, rc5, rc6, rc7]) rfl ?_
    all_goals exact ⟨rfl, by first | exact below_set8 (g := w.heap.size + 3) (by omega) HB | exact (below_set8 (g := w.heap.size + 3) (by omega) HB).drew⟩
end Go.Proofs.Ytnnojeggjnddpaa

/- Points: whether one is right, by the program. -/
namespace Go.Proofs.Ytnnojeggjnddpaa
open Go.RowKit
abbrev PV (x y z : Int) : Value := .agg #[.int .u64 (ww3 x), .int .u64 (ww2 x), .int .u64 (ww1 x), .int .u64 (ww0 x), .int .u64 (ww3 y), .int .u64 (ww2 y), .int .u64 (ww1 y), .int .u64 (ww0 y), .int .u64 (ww3 z), .int .u64 (ww2 z), .int .u64 (ww1 z), .int .u64 (ww0 z)]
/-- Whether the point is right. -/
def ptB (x y z : Int) : Bool := decide (0 < z) && (small x && small y && small z) && decide (Int.gcd (Int.gcd x y) z = 1)
theorem gcd_three (x y z : Int) : Int.gcd (y.natAbs : Int) (Int.gcd (x.natAbs : Int) (z.natAbs : Int) : Int) = Int.gcd (Int.gcd x y) z := by
  rw [Int.gcd_natCast_natCast, Int.gcd_natCast_natCast]
  unfold Int.gcd
  rw [Int.natAbs_natCast, Nat.gcd_comm x.natAbs z.natAbs, ← Nat.gcd_assoc, Nat.gcd_comm (Nat.gcd y.natAbs z.natAbs), ← Nat.gcd_assoc]
set_option maxRecDepth 100000 in
set_option maxHeartbeats 2000000 in
theorem pright_det (x y z : Int) (hx : told x = true) (hy : told y = true) (hz : told z = true) (w : World) : Calls Try.prog 64 #[PV x y z] w (VP (.bool (ptB x y z)) w) := by
  have X0 : Blk (w.alloc (.cells #[.int .u64 (ww3 x), .int .u64 (ww2 x), .int .u64 (ww1 x), .int .u64 (ww0 x), .int .u64 (ww3 y), .int .u64 (ww2 y), .int .u64 (ww1 y), .int .u64 (ww0 y), .int .u64 (ww3 z), .int .u64 (ww2 z), .int .u64 (ww1 z), .int .u64 (ww0 z)] 47)) w.heap.size [.int .u64 (ww3 x), .int .u64 (ww2 x), .int .u64 (ww1 x), .int .u64 (ww0 x), .int .u64 (ww3 y), .int .u64 (ww2 y), .int .u64 (ww1 y), .int .u64 (ww0 y), .int .u64 (ww3 z), .int .u64 (ww2 z), .int .u64 (ww1 z), .int .u64 (ww0 z)] := Blk.new w _ _ rfl
  have HB := (Below.refl _ w).alloc (Nat.le_refl _) (.cells #[.int .u64 (ww3 x), .int .u64 (ww2 x), .int .u64 (ww1 x), .int .u64 (ww0 x), .int .u64 (ww3 y), .int .u64 (ww2 y), .int .u64 (ww1 y), .int .u64 (ww0 y), .int .u64 (ww3 z), .int .u64 (ww2 z), .int .u64 (ww1 z), .int .u64 (ww0 z)] 47)
  have SG := sign_det z hz
  have P1 := isPart_det x hx
  have P2 := isPart_det y hy
  have P3 := isPart_det z hz
  have CM := common3_det x y z hx hy hz
  rw [gcd_three] at CM
  have hl : LR (Int.gcd (Int.gcd x y) z : Int) := by
    have tx := told_abs hx; have ty := told_abs hy; have tz := told_abs hz
    have g1 := gcd_le x.natAbs y.natAbs 57896044618658097711785492504343953926634992332820282019728792003956564819968 (by omega) (by omega)
    rw [show Int.gcd (x.natAbs : Int) (y.natAbs : Int) = Int.gcd x y by simp [Int.gcd]] at g1
    have g2 := gcd_le (Int.gcd x y) z.natAbs 57896044618658097711785492504343953926634992332820282019728792003956564819968 (by omega) (by omega)
    rw [show Int.gcd ((Int.gcd x y : Nat) : Int) (z.natAbs : Int) = Int.gcd (Int.gcd x y) z by simp [Int.gcd]] at g2
    unfold LR
    omega
  have EO := eqLVOne _ hl
  obtain ⟨G, hG⟩ : ∃ G, decide (((Int.gcd (Int.gcd x y) z : Nat) : Int) = 1) = G := ⟨_, rfl⟩
  simp only [hG] at EO
  have HG : Hid (G = decide (Int.gcd (Int.gcd x y) z = 1)) := by
    show _ = _
    rw [← hG, Bool.eq_iff_iff, decide_eq_true_iff, decide_eq_true_iff]
    omega
  clear hG hl hx hy hz
  generalize ((Int.gcd (Int.gcd x y) z : Nat) : Int) = g at *
  have hm1 : ((-1 : Int) == 1) = false := by decide
  have hm0 : ((0 : Int) == 1) = false := by decide
  go_enter Try.func64, Try.ntmps64
  have HG' := HG
  clear HG
  have q0 := X0.c 0 rfl; have q1 := X0.c 1 rfl; have q2 := X0.c 2 rfl; have q3 := X0.c 3 rfl; have q4 := X0.c 4 rfl; have q5 := X0.c 5 rfl; have q6 := X0.c 6 rfl; have q7 := X0.c 7 rfl; have q8 := X0.c 8 rfl; have q9 := X0.c 9 rfl; have q10 := X0.c 10 rfl; have q11 := X0.c 11 rfl
  go_wp2_with fail
  refine (SG _).mono ?_
  rintro e w1 ⟨rfl, hB⟩
  replace X0 := X0.step hB; replace HB := HB.trans (hB.mono HB.size); clear hB; clear q0 q1 q2 q3 q4 q5 q6 q7 q8 q9 q10 q11; have q0 := X0.c 0 rfl; have q1 := X0.c 1 rfl; have q2 := X0.c 2 rfl; have q3 := X0.c 3 rfl; have q4 := X0.c 4 rfl; have q5 := X0.c 5 rfl; have q6 := X0.c 6 rfl; have q7 := X0.c 7 rfl; have q8 := X0.c 8 rfl; have q9 := X0.c 9 rfl; have q10 := X0.c 10 rfl; have q11 := X0.c 11 rfl
  by_cases hs : 0 < z
  · rw [cmpI_gt hs]
    go_wp2_with fail
    refine (P1 _).mono ?_
    rintro e w2 ⟨rfl, hB⟩
    replace X0 := X0.step hB; replace HB := HB.trans (hB.mono HB.size); clear hB; clear q0 q1 q2 q3 q4 q5 q6 q7 q8 q9 q10 q11; have q0 := X0.c 0 rfl; have q1 := X0.c 1 rfl; have q2 := X0.c 2 rfl; have q3 := X0.c 3 rfl; have q4 := X0.c 4 rfl; have q5 := X0.c 5 rfl; have q6 := X0.c 6 rfl; have q7 := X0.c 7 rfl; have q8 := X0.c 8 rfl; have q9 := X0.c 9 rfl; have q10 := X0.c 10 rfl; have q11 := X0.c 11 rfl
    by_cases h1 : small x = true
    · rw [h1]
      go_wp2_with fail
      refine (P2 _).mono ?_
      rintro e w3 ⟨rfl, hB⟩
      replace X0 := X0.step hB; replace HB := HB.trans (hB.mono HB.size); clear hB; clear q0 q1 q2 q3 q4 q5 q6 q7 q8 q9 q10 q11; have q0 := X0.c 0 rfl; have q1 := X0.c 1 rfl; have q2 := X0.c 2 rfl; have q3 := X0.c 3 rfl; have q4 := X0.c 4 rfl; have q5 := X0.c 5 rfl; have q6 := X0.c 6 rfl; have q7 := X0.c 7 rfl; have q8 := X0.c 8 rfl; have q9 := X0.c 9 rfl; have q10 := X0.c 10 rfl; have q11 := X0.c 11 rfl
      by_cases h2 : small y = true
      · rw [h2]
        go_wp2_with fail
        refine (P3 _).mono ?_
        rintro e w4 ⟨rfl, hB⟩
        replace X0 := X0.step hB; replace HB := HB.trans (hB.mono HB.size); clear hB; clear q0 q1 q2 q3 q4 q5 q6 q7 q8 q9 q10 q11; have q0 := X0.c 0 rfl; have q1 := X0.c 1 rfl; have q2 := X0.c 2 rfl; have q3 := X0.c 3 rfl; have q4 := X0.c 4 rfl; have q5 := X0.c 5 rfl; have q6 := X0.c 6 rfl; have q7 := X0.c 7 rfl; have q8 := X0.c 8 rfl; have q9 := X0.c 9 rfl; have q10 := X0.c 10 rfl; have q11 := X0.c 11 rfl
        by_cases h3 : small z = true
        · rw [h3]
          go_wp2_with fail
          refine (CM _).mono ?_
          rintro e w5 ⟨rfl, hB⟩
          replace X0 := X0.step hB; replace HB := HB.trans (hB.mono HB.size); clear hB; clear q0 q1 q2 q3 q4 q5 q6 q7 q8 q9 q10 q11; have q0 := X0.c 0 rfl; have q1 := X0.c 1 rfl; have q2 := X0.c 2 rfl; have q3 := X0.c 3 rfl; have q4 := X0.c 4 rfl; have q5 := X0.c 5 rfl; have q6 := X0.c 6 rfl; have q7 := X0.c 7 rfl; have q8 := X0.c 8 rfl; have q9 := X0.c 9 rfl; have q10 := X0.c 10 rfl; have q11 := X0.c 11 rfl
          have HR : Hid (ptB x y z = G) := by show _ = _; unfold ptB; rw [HG'.out, h1, h2, h3]; simp [hs]
          clear HG' h1 h2 h3 hs X0 q0 q1 q2 q3 q4 q5 q6 q7 q8 q9 q10 q11
          go_wp2
          go_ret
          exact ⟨by simp [HR.out], HB⟩
        · replace h3 := Bool.eq_false_iff.2 h3
          rw [h3]
          have HR : Hid (ptB x y z = false) := by show _ = _; unfold ptB; simp [h3]
          clear HG' h1 h2 h3 hs X0 q0 q1 q2 q3 q4 q5 q6 q7 q8 q9 q10 q11
          go_wp2
          go_ret
          exact ⟨by rw [HR.out]; rfl, HB⟩
      · replace h2 := Bool.eq_false_iff.2 h2
        rw [h2]
        have HR : Hid (ptB x y z = false) := by show _ = _; unfold ptB; simp [h2]
        clear HG' h1 h2 hs X0 q0 q1 q2 q3 q4 q5 q6 q7 q8 q9 q10 q11
        go_wp2
        go_ret
        exact ⟨by rw [HR.out]; rfl, HB⟩
    · replace h1 := Bool.eq_false_iff.2 h1
      rw [h1]
      have HR : Hid (ptB x y z = false) := by show _ = _; unfold ptB; simp [h1]
      clear HG' h1 hs X0 q0 q1 q2 q3 q4 q5 q6 q7 q8 q9 q10 q11
      go_wp2
      go_ret
      exact ⟨by rw [HR.out]; rfl, HB⟩
  · have HR : Hid (ptB x y z = false) := by show _ = _; unfold ptB; simp [hs]
    have hcs : cmpI z 0 = -1 ∨ cmpI z 0 = 0 := by
      rcases Int.lt_trichotomy z 0 with h | h | h
      · exact Or.inl (cmpI_lt h)
      · exact Or.inr (cmpI_eq h)
      · exact absurd h hs
    clear HG' hs X0 q0 q1 q2 q3 q4 q5 q6 q7 q8 q9 q10 q11
    rcases hcs with hc | hc
    · rw [hc]
      go_wp2
      go_ret
      exact ⟨by rw [HR.out]; rfl, HB⟩
    · rw [hc]
      go_wp2
      go_ret
      exact ⟨by rw [HR.out]; rfl, HB⟩
end Go.Proofs.Ytnnojeggjnddpaa

/- The walk of the model's quotient and rest of numbers with signs. -/
namespace Go.Proofs.Ytnnojeggjnddpaa
open Go.RowKit
theorem num_put {w : World} {s : Bool} {ao : Option Addr} {n cap : Nat} {ds : List Int} {z : Int} {k R : Nat} {p : Bool} {q : Option Addr} {q1 q2 : Nat} (h : IsNum w s ao n cap ds z k) (B : Blk w R [.bool p, .slice q q1 q2]) (u0 u1 : Value) : IsNum ((w.setCell ⟨R, 0, none⟩ u0).setCell ⟨R, 1, none⟩ u1) s ao n cap ds z k := by
  have h1 := h.rd.set u0 (B.c 0 rfl) (by intro x e; cases e)
  have B1 := B.setI 0 (by simp) u0
  have h2 := h1.set u1 (B1.c 1 rfl) (by intro x e; cases e)
  exact ⟨h.neg, h.len, h.cap, h2, h.nrm, h.val, h.le⟩
theorem num_more {w : World} {s : Bool} {ao : Option Addr} {n cap : Nat} {ds : List Int} {z : Int} {k k' : Nat} (h : IsNum w s ao n cap ds z k) (hk : k ≤ k') : IsNum w s ao n cap ds z k' := ⟨h.neg, h.len, h.cap, h.rd, h.nrm, h.val, Nat.le_trans h.le hk⟩
end Go.Proofs.Ytnnojeggjnddpaa

/- A spot as a point: the walks of the model's point, told, of the program's, and of the law. -/
namespace Go.Proofs.Ytnnojeggjnddpaa
open Go.RowKit
end Go.Proofs.Ytnnojeggjnddpaa

/- Points: the model's numbers of a point, and whether it is right. -/
namespace Go.Proofs.Ytnnojeggjnddpaa
open Go.RowKit
theorem from_det (x : Int) (hx : told x = true) (w : World) : Calls Try.prog 43 #[W4 x] w (NumP 8 x w) := by
  obtain ⟨p3, p2, p1, p0⟩ := ww_words x
  have h := from_any (ww3 x) (ww2 x) (ww1 x) (ww0 x) p3 p2 p1 p0 w
  rw [ww_sw hx] at h
  exact h
theorem ArgsB.set6g {w W : World} {vss : List (List Value)} (h : ArgsB w W vss) {g : Nat} (hg : w.heap.size + vss.length ≤ g) (v0 v1 v2 v3 v4 v5 : Value) : ArgsB w ((((((W.setCell ⟨g, 0, none⟩ v0).setCell ⟨g, 1, none⟩ v1).setCell ⟨g, 2, none⟩ v2).setCell ⟨g, 3, none⟩ v3).setCell ⟨g, 4, none⟩ v4).setCell ⟨g, 5, none⟩ v5) vss := (((((h.set (by exact hg) _).set (by exact hg) _).set (by exact hg) _).set (by exact hg) _).set (by exact hg) _).set (by exact hg) _
theorem l3o_cells {x y z : Int} {w W : World} (T0 : ArgsB w W [[.int .u64 (ww3 x), .int .u64 (ww2 x), .int .u64 (ww1 x), .int .u64 (ww0 x), .int .u64 (ww3 y), .int .u64 (ww2 y), .int .u64 (ww1 y), .int .u64 (ww0 y), .int .u64 (ww3 z), .int .u64 (ww2 z), .int .u64 (ww1 z), .int .u64 (ww0 z)]]) : (fun w' => w'.cell? ⟨w.heap.size, 0, none⟩ = some (.int .u64 (ww3 x)) ∧ w'.cell? ⟨w.heap.size, 1, none⟩ = some (.int .u64 (ww2 x)) ∧ w'.cell? ⟨w.heap.size, 2, none⟩ = some (.int .u64 (ww1 x)) ∧ w'.cell? ⟨w.heap.size, 3, none⟩ = some (.int .u64 (ww0 x)) ∧ w'.cell? ⟨w.heap.size, 4, none⟩ = some (.int .u64 (ww3 y)) ∧ w'.cell? ⟨w.heap.size, 5, none⟩ = some (.int .u64 (ww2 y)) ∧ w'.cell? ⟨w.heap.size, 6, none⟩ = some (.int .u64 (ww1 y)) ∧ w'.cell? ⟨w.heap.size, 7, none⟩ = some (.int .u64 (ww0 y)) ∧ w'.cell? ⟨w.heap.size, 8, none⟩ = some (.int .u64 (ww3 z)) ∧ w'.cell? ⟨w.heap.size, 9, none⟩ = some (.int .u64 (ww2 z)) ∧ w'.cell? ⟨w.heap.size, 10, none⟩ = some (.int .u64 (ww1 z)) ∧ w'.cell? ⟨w.heap.size, 11, none⟩ = some (.int .u64 (ww0 z))) W := ⟨(T0.b 0 rfl).c 0 rfl, (T0.b 0 rfl).c 1 rfl, (T0.b 0 rfl).c 2 rfl, (T0.b 0 rfl).c 3 rfl, (T0.b 0 rfl).c 4 rfl, (T0.b 0 rfl).c 5 rfl, (T0.b 0 rfl).c 6 rfl, (T0.b 0 rfl).c 7 rfl, (T0.b 0 rfl).c 8 rfl, (T0.b 0 rfl).c 9 rfl, (T0.b 0 rfl).c 10 rfl, (T0.b 0 rfl).c 11 rfl⟩
set_option maxRecDepth 100000 in
set_option maxHeartbeats 2000000 in
theorem l3Of_det (x y z : Int) (hx : told x = true) (hy : told y = true) (hz : told z = true) (w : World) : Calls Try.prog 63 #[PV x y z] w (L3P 8 x y z w) := by
  have T5 : ArgsB w ((w.alloc (.cells #[.int .u64 (ww3 x), .int .u64 (ww2 x), .int .u64 (ww1 x), .int .u64 (ww0 x), .int .u64 (ww3 y), .int .u64 (ww2 y), .int .u64 (ww1 y), .int .u64 (ww0 y), .int .u64 (ww3 z), .int .u64 (ww2 z), .int .u64 (ww1 z), .int .u64 (ww0 z)] 47)).alloc (.cells #[.bool false, .slice none 0 0, .bool false, .slice none 0 0, .bool false, .slice none 0 0] 95)) [[.int .u64 (ww3 x), .int .u64 (ww2 x), .int .u64 (ww1 x), .int .u64 (ww0 x), .int .u64 (ww3 y), .int .u64 (ww2 y), .int .u64 (ww1 y), .int .u64 (ww0 y), .int .u64 (ww3 z), .int .u64 (ww2 z), .int .u64 (ww1 z), .int .u64 (ww0 z)], [.bool false, .slice none 0 0, .bool false, .slice none 0 0, .bool false, .slice none 0 0]] := ar2 _ _ _ _ w
  have R0 := T5.b 1 rfl
  have T0 : ArgsB w _ [[.int .u64 (ww3 x), .int .u64 (ww2 x), .int .u64 (ww1 x), .int .u64 (ww0 x), .int .u64 (ww3 y), .int .u64 (ww2 y), .int .u64 (ww1 y), .int .u64 (ww0 y), .int .u64 (ww3 z), .int .u64 (ww2 z), .int .u64 (ww1 z), .int .u64 (ww0 z)]] := T5.left (vs := [[.bool false, .slice none 0 0, .bool false, .slice none 0 0, .bool false, .slice none 0 0]])
  clear T5
  have F1 := from_det x hx
  have F2 := from_det y hy
  have F3 := from_det z hz
  clear hx hy hz
  have tok1 : True := trivial
  have tok2 : True := trivial
  go_enter Try.func63, Try.ntmps63
  go_upto_region 1 with fail
  generalize ((w.alloc (.cells #[.int .u64 (ww3 x), .int .u64 (ww2 x), .int .u64 (ww1 x), .int .u64 (ww0 x), .int .u64 (ww3 y), .int .u64 (ww2 y), .int .u64 (ww1 y), .int .u64 (ww0 y), .int .u64 (ww3 z), .int .u64 (ww2 z), .int .u64 (ww1 z), .int .u64 (ww0 z)] 47)).alloc (.cells #[.bool false, .slice none 0 0, .bool false, .slice none 0 0, .bool false, .slice none 0 0] 95)) = W at *
  go_region_held3 (fun w' => w'.cell? ⟨w.heap.size, 0, none⟩ = some (.int .u64 (ww3 x)) ∧ w'.cell? ⟨w.heap.size, 1, none⟩ = some (.int .u64 (ww2 x)) ∧ w'.cell? ⟨w.heap.size, 2, none⟩ = some (.int .u64 (ww1 x)) ∧ w'.cell? ⟨w.heap.size, 3, none⟩ = some (.int .u64 (ww0 x)) ∧ w'.cell? ⟨w.heap.size, 4, none⟩ = some (.int .u64 (ww3 y)) ∧ w'.cell? ⟨w.heap.size, 5, none⟩ = some (.int .u64 (ww2 y)) ∧ w'.cell? ⟨w.heap.size, 6, none⟩ = some (.int .u64 (ww1 y)) ∧ w'.cell? ⟨w.heap.size, 7, none⟩ = some (.int .u64 (ww0 y)) ∧ w'.cell? ⟨w.heap.size, 8, none⟩ = some (.int .u64 (ww3 z)) ∧ w'.cell? ⟨w.heap.size, 9, none⟩ = some (.int .u64 (ww2 z)) ∧ w'.cell? ⟨w.heap.size, 10, none⟩ = some (.int .u64 (ww1 z)) ∧ w'.cell? ⟨w.heap.size, 11, none⟩ = some (.int .u64 (ww0 z))) ((refine l3o_cells ?_ <;> repeat (first | (with_reducible exact T0) | (with_reducible refine ArgsB.drew ?_) | (with_reducible refine ArgsB.set6g ?_ (by simp; try omega) _ _ _ _ _ _))))
    (first
      | (go_at_call 43; have _t := tok1; refine (F1 _).mono ?_; rintro e w1 ⟨s1, o1, n1, c1, d1, rfl, N1, hB⟩; (first | (have T1 : ArgsB w w1 [[.int .u64 (ww3 x), .int .u64 (ww2 x), .int .u64 (ww1 x), .int .u64 (ww0 x), .int .u64 (ww3 y), .int .u64 (ww2 y), .int .u64 (ww1 y), .int .u64 (ww0 y), .int .u64 (ww3 z), .int .u64 (ww2 z), .int .u64 (ww1 z), .int .u64 (ww0 z)]] := (by with_reducible exact T0.step hB); have tltw1 := (T0.b 0 rfl).lt; have lR0w1 := R0.lt; replace R0 := R0.step hB; skip) | (have T1 : ArgsB w w1 [[.int .u64 (ww3 x), .int .u64 (ww2 x), .int .u64 (ww1 x), .int .u64 (ww0 x), .int .u64 (ww3 y), .int .u64 (ww2 y), .int .u64 (ww1 y), .int .u64 (ww0 y), .int .u64 (ww3 z), .int .u64 (ww2 z), .int .u64 (ww1 z), .int .u64 (ww0 z)]] := (by with_reducible exact T0.drew.step hB); have tltw1 := (T0.b 0 rfl).lt; have lR0w1 := R0.lt; replace R0 := R0.drew.step hB; skip)); clear T0; have T0 := T1; clear T1; clear hB tok1 _t)
      | (go_at_call 43; have _t := tok2; refine (F2 _).mono ?_; rintro e w2 ⟨s2, o2, n2, c2, d2, rfl, N2, hB⟩; (first | (replace N1 := N1.below hB; skip) | (replace N1 := N1.drew.below hB; skip)); (first | (have T1 : ArgsB w w2 [[.int .u64 (ww3 x), .int .u64 (ww2 x), .int .u64 (ww1 x), .int .u64 (ww0 x), .int .u64 (ww3 y), .int .u64 (ww2 y), .int .u64 (ww1 y), .int .u64 (ww0 y), .int .u64 (ww3 z), .int .u64 (ww2 z), .int .u64 (ww1 z), .int .u64 (ww0 z)]] := (by with_reducible exact T0.step hB); have tltw2 := (T0.b 0 rfl).lt; have lR0w2 := R0.lt; replace R0 := R0.step hB; skip) | (have T1 : ArgsB w w2 [[.int .u64 (ww3 x), .int .u64 (ww2 x), .int .u64 (ww1 x), .int .u64 (ww0 x), .int .u64 (ww3 y), .int .u64 (ww2 y), .int .u64 (ww1 y), .int .u64 (ww0 y), .int .u64 (ww3 z), .int .u64 (ww2 z), .int .u64 (ww1 z), .int .u64 (ww0 z)]] := (by with_reducible exact T0.drew.step hB); have tltw2 := (T0.b 0 rfl).lt; have lR0w2 := R0.lt; replace R0 := R0.drew.step hB; skip)); clear T0; have T0 := T1; clear T1; clear hB tok2 _t)
      | (go_at_call 43; refine (F3 _).mono ?_; rintro e w3 ⟨s3, o3, n3, c3, d3, rfl, N3, hB⟩; (first | (replace N1 := N1.below hB; replace N2 := N2.below hB; skip) | (replace N1 := N1.drew.below hB; replace N2 := N2.drew.below hB; skip)); (first | (have T1 : ArgsB w w3 [[.int .u64 (ww3 x), .int .u64 (ww2 x), .int .u64 (ww1 x), .int .u64 (ww0 x), .int .u64 (ww3 y), .int .u64 (ww2 y), .int .u64 (ww1 y), .int .u64 (ww0 y), .int .u64 (ww3 z), .int .u64 (ww2 z), .int .u64 (ww1 z), .int .u64 (ww0 z)]] := (by with_reducible exact T0.step hB); have tltw3 := (T0.b 0 rfl).lt; have lR0w3 := R0.lt; replace R0 := R0.step hB; skip) | (have T1 : ArgsB w w3 [[.int .u64 (ww3 x), .int .u64 (ww2 x), .int .u64 (ww1 x), .int .u64 (ww0 x), .int .u64 (ww3 y), .int .u64 (ww2 y), .int .u64 (ww1 y), .int .u64 (ww0 y), .int .u64 (ww3 z), .int .u64 (ww2 z), .int .u64 (ww1 z), .int .u64 (ww0 z)]] := (by with_reducible exact T0.drew.step hB); have tltw3 := (T0.b 0 rfl).lt; have lR0w3 := R0.lt; replace R0 := R0.drew.step hB; skip)); clear T0; have T0 := T1; clear T1; clear hB; have rc0 := R0.c 0 rfl; have rf0 := R0.f 0 rfl; have rc1 := R0.c 1 rfl; have rf1 := R0.f 1 rfl; have rc2 := R0.c 2 rfl; have rf2 := R0.f 2 rfl; have rc3 := R0.c 3 rfl; have rf3 := R0.f 3 rfl; have rc4 := R0.c 4 rfl; have rf4 := R0.f 4 rfl; have rc5 := R0.c 5 rfl; have rf5 := R0.f 5 rfl; have rl := R0.lt))
  all_goals have HB := T0.below
  all_goals have M1 := num_set6 N1 R0 (.bool s1) (.slice o1 n1 c1) (.bool s2) (.slice o2 n2 c2) (.bool s3) (.slice o3 n3 c3)
  all_goals have M2 := num_set6 N2 R0 (.bool s1) (.slice o1 n1 c1) (.bool s2) (.slice o2 n2 c2) (.bool s3) (.slice o3 n3 c3)
  all_goals have M3 := num_set6 N3 R0 (.bool s1) (.slice o1 n1 c1) (.bool s2) (.slice o2 n2 c2) (.bool s3) (.slice o3 n3 c3)
  all_goals clear T0 R0 N1 N2 N3 F1 F2 F3
  all_goals go_wp2
  all_goals refine bodyPost_ret (v := .agg #[.bool s1, .slice o1 n1 c1, .bool s2, .slice o2 n2 c2, .bool s3, .slice o3 n3 c3]) (by simp [results, Try.results63, go_sem, rc0, rc1, rc2, rc3, rc4, rc5]) rfl ?_
  all_goals refine ⟨s1, o1, n1, c1, d1, s2, o2, n2, c2, d2, s3, o3, n3, c3, d3, rfl, by first | exact M1 | exact M1.drew, by first | exact M2 | exact M2.drew, by first | exact M3 | exact M3.drew, ?_⟩
  all_goals repeat' (refine Below.setCell ?_ (by simp; try omega) _)
  all_goals first | exact HB | exact HB.drew
end Go.Proofs.Ytnnojeggjnddpaa

/- Points: the model's word on whether one is right. -/
namespace Go.Proofs.Ytnnojeggjnddpaa
open Go.RowKit
theorem l3_cells0 {s1 s2 s3 : Bool} {o1 o2 o3 : Option Addr} {n1 n2 n3 c1 c2 c3 : Nat} {W : World} {gx : Nat} (X0 : Blk W gx [.bool s1, .slice o1 n1 c1, .bool s2, .slice o2 n2 c2, .bool s3, .slice o3 n3 c3]) : (fun w' => w'.cell? ⟨gx, 0, none⟩ = some (.bool s1) ∧ w'.cell? ⟨gx, 1, none⟩ = some (.slice o1 n1 c1) ∧ w'.cell? ⟨gx, 2, none⟩ = some (.bool s2) ∧ w'.cell? ⟨gx, 3, none⟩ = some (.slice o2 n2 c2) ∧ w'.cell? ⟨gx, 4, none⟩ = some (.bool s3) ∧ w'.cell? ⟨gx, 5, none⟩ = some (.slice o3 n3 c3)) W := ⟨X0.c 0 rfl, X0.c 1 rfl, X0.c 2 rfl, X0.c 3 rfl, X0.c 4 rfl, X0.c 5 rfl⟩
set_option maxRecDepth 100000 in
set_option maxHeartbeats 8000000 in
theorem specPointOk_det (x y z : Int) (hx : told x = true) (hy : told y = true) (hz : told z = true) (w : World) : Calls Try.prog 62 #[PV x y z] w (VP (.bool (ptB x y z)) w) := by
  have HB := (Below.refl _ w).alloc (Nat.le_refl _) (.cells #[.int .u64 (ww3 x), .int .u64 (ww2 x), .int .u64 (ww1 x), .int .u64 (ww0 x), .int .u64 (ww3 y), .int .u64 (ww2 y), .int .u64 (ww1 y), .int .u64 (ww0 y), .int .u64 (ww3 z), .int .u64 (ww2 z), .int .u64 (ww1 z), .int .u64 (ww0 z)] 47)
  have OF := l3Of_det x y z hx hy hz
  clear hx hy hz
  go_enter Try.func62, Try.ntmps62
  go_wp2_with fail
  refine (OF _).mono ?_
  rintro e w1 ⟨s1, o1, n1, c1, d1, s2, o2, n2, c2, d2, s3, o3, n3, c3, d3, rfl, N1, N2, N3, hB⟩
  replace HB := HB.trans (hB.mono HB.size)
  clear hB OF
  go_upto_region 2 with fail
  have X0 : Blk (w1.alloc (.cells #[.bool s1, .slice o1 n1 c1, .bool s2, .slice o2 n2 c2, .bool s3, .slice o3 n3 c3] 95)) w1.heap.size [.bool s1, .slice o1 n1 c1, .bool s2, .slice o2 n2 c2, .bool s3, .slice o3 n3 c3] := Blk.new w1 _ _ rfl
  have hb0 := (Below.refl w1.heap.size w1).alloc (Nat.le_refl _) (.cells #[.bool s1, .slice o1 n1 c1, .bool s2, .slice o2 n2 c2, .bool s3, .slice o3 n3 c3] 95)
  replace N1 := N1.below hb0
  replace N2 := N2.below hb0
  replace N3 := N3.below hb0
  replace HB := HB.alloc HB.size (.cells #[.bool s1, .slice o1 n1 c1, .bool s2, .slice o2 n2 c2, .bool s3, .slice o3 n3 c3] 95)
  clear hb0
  generalize w1.alloc (.cells #[.bool s1, .slice o1 n1 c1, .bool s2, .slice o2 n2 c2, .bool s3, .slice o3 n3 c3] 95) = W at *
  generalize w1.heap.size = gx at *
  replace N1 := N1.drew
  replace N2 := N2.drew
  replace N3 := N3.drew
  by_cases hs : 0 < z
  · by_cases h1 : (small x && small y && small z) = true
    · have HR : Hid (ptB x y z = (cmpI (Int.gcd (Int.gcd x y) z : Int) 1 == 0)) := by
        show _ = _
        unfold ptB
        rw [h1, Bool.eq_iff_iff]
        simp only [hs, decide_true, Bool.true_and, decide_eq_true_eq, beq_iff_eq]
        unfold cmpI
        split
        · constructor
          · intro h; omega
          · intro h; exact absurd h (by decide)
        · split
          · constructor
            · intro h; omega
            · intro h; exact absurd h (by decide)
          · exact ⟨fun _ => rfl, fun _ => by omega⟩
      obtain ⟨q, hq⟩ : ∃ q, cmpI (Int.gcd (Int.gcd x y) z : Int) 1 = q := ⟨_, rfl⟩
      rw [hq] at HR
      have tok1 : True := trivial
      go_region_held3 (fun w' => w'.cell? ⟨gx, 0, none⟩ = some (.bool s1) ∧ w'.cell? ⟨gx, 1, none⟩ = some (.slice o1 n1 c1) ∧ w'.cell? ⟨gx, 2, none⟩ = some (.bool s2) ∧ w'.cell? ⟨gx, 3, none⟩ = some (.slice o2 n2 c2) ∧ w'.cell? ⟨gx, 4, none⟩ = some (.bool s3) ∧ w'.cell? ⟨gx, 5, none⟩ = some (.slice o3 n3 c3)) (first | (with_reducible exact l3_cells0 X0) | (with_reducible exact l3_cells0 X0.drew))
        (first
          | (go_at_call 91; refine (sign_any s3 o3 n3 c3 d3 _ 8 _ N3).mono ?_; rintro e w2 ⟨rfl, hB⟩; rw [cmpI_gt hs]; (first | (replace X0 := X0.step hB; replace HB := HB.trans (hB.mono HB.size)) | (replace X0 := X0.drew.step hB; replace HB := HB.drew.trans (hB.mono HB.size))); replace N1 := N1.below hB; replace N2 := N2.below hB; replace N3 := N3.below hB; clear hB)
          | (go_at_call 96; refine (l3Small_any s1 o1 n1 c1 d1 s2 o2 n2 c2 d2 s3 o3 n3 c3 d3 x y z 8 (by omega) _ N1 N2 N3).mono ?_; rintro e w3 ⟨rfl, hB⟩; rw [h1]; (first | (replace X0 := X0.step hB; replace HB := HB.trans (hB.mono HB.size)) | (replace X0 := X0.drew.step hB; replace HB := HB.drew.trans (hB.mono HB.size))); replace N1 := N1.below hB; replace N2 := N2.below hB; replace N3 := N3.below hB; clear hB)
          | (go_at_call 92; have _t := tok1; refine (gcd_any s1 s2 o1 o2 n1 n2 c1 c2 8 d1 d2 _ _ _ N1 N2 (by omega)).mono ?_; rintro e w4 ⟨s4, o4, n4, c4, d4, rfl, N4, hB⟩; (first | (replace X0 := X0.step hB; replace HB := HB.trans (hB.mono HB.size)) | (replace X0 := X0.drew.step hB; replace HB := HB.drew.trans (hB.mono HB.size))); replace N3 := N3.below hB; clear hB; clear tok1 _t N1 N2)
          | (go_at_call 92; refine (gcd_any s4 s3 o4 o3 n4 n3 c4 c3 8 d4 d3 _ _ _ N4 N3 (by omega)).mono ?_; rintro e w5 ⟨s5, o5, n5, c5, d5, rfl, N5, hB⟩; (first | (replace X0 := X0.step hB; replace HB := HB.trans (hB.mono HB.size)) | (replace X0 := X0.drew.step hB; replace HB := HB.drew.trans (hB.mono HB.size))); clear hB; clear N3 N4)
          | (go_at_call 57; refine (int_any 1 _ (by decide) (by decide)).mono ?_; rintro e w6 ⟨s6, o6, n6, c6, d6, rfl, N6, hB⟩; (first | (replace X0 := X0.step hB; replace HB := HB.trans (hB.mono HB.size)) | (replace X0 := X0.drew.step hB; replace HB := HB.drew.trans (hB.mono HB.size))); replace N5 := N5.below hB; clear hB)
          | (go_at_call 56; refine (cmp_any s5 s6 o5 o6 n5 n6 c5 c6 8 d5 d6 _ _ _ N5 (num_more N6 (by decide)) (by omega)).mono ?_; rintro e w7 ⟨rfl, hB⟩; rw [hq]; (first | (replace X0 := X0.step hB; replace HB := HB.trans (hB.mono HB.size)) | (replace X0 := X0.drew.step hB; replace HB := HB.drew.trans (hB.mono HB.size))); clear hB))
      all_goals clear hq hs h1 X0
      all_goals go_wp2
      all_goals go_ret
      all_goals exact ⟨by rw [HR.out]; simp, by first | exact HB | exact HB.drew⟩
    · replace h1 := Bool.eq_false_iff.2 h1
      have HR : Hid (ptB x y z = false) := by show _ = _; unfold ptB; rw [h1]; simp
      have q0 := X0.c 0 rfl; have q1 := X0.c 1 rfl; have q2 := X0.c 2 rfl; have q3 := X0.c 3 rfl; have q4 := X0.c 4 rfl; have q5 := X0.c 5 rfl
      refine wp_region_any (by kernel_rfl) ?_
      try (change wpAny _ _ _ _ _ _ _ (World.drew _))
      refine wpAny_ready (rs := [0]) (by kernel_rfl) (by simp) ?_
      refine AllReady.cons rfl (fun K hK => ?_) AllReady.nil
      go_simp
      refine hK _ _ ?_
      clear hK K
      refine wpAny_ready (rs := [1]) (by kernel_rfl) (by simp) ?_
      refine AllReady.cons rfl (fun K hK => ?_) AllReady.nil
      go_simp
      refine hK _ _ ?_
      clear hK K
      refine wpAny_ready (rs := [2]) (by kernel_rfl) (by simp) ?_
      refine AllReady.cons rfl (fun K hK => ?_) AllReady.nil
      go_simp
      go_wp2_with (go_at_call 91; refine (sign_any s3 o3 n3 c3 d3 _ 8 _ N3).mono ?_; rintro e w2 ⟨rfl, hB⟩; rw [cmpI_gt hs]; (first | (replace X0 := X0.step hB; replace HB := HB.trans (hB.mono HB.size)) | (replace X0 := X0.drew.step hB; replace HB := HB.drew.trans (hB.mono HB.size))); replace N1 := N1.below hB; replace N2 := N2.below hB; replace N3 := N3.below hB; clear hB; clear q0 q1 q2 q3 q4 q5; have q0 := X0.c 0 rfl; have q1 := X0.c 1 rfl; have q2 := X0.c 2 rfl; have q3 := X0.c 3 rfl; have q4 := X0.c 4 rfl; have q5 := X0.c 5 rfl)
      (try (refine hK _ _ ?_; clear hK K))
      refine wpAny_ready (rs := [3]) (by kernel_rfl) (by simp) ?_
      refine AllReady.cons rfl (fun K hK => ?_) AllReady.nil
      go_simp
      refine hK _ _ ?_
      clear hK K
      refine wpAny_ready (rs := [4]) (by kernel_rfl) (by simp) ?_
      refine AllReady.cons rfl (fun K hK => ?_) AllReady.nil
      go_simp
      refine hK _ _ ?_
      clear hK K
      refine wpAny_ready (rs := [5]) (by kernel_rfl) (by simp) ?_
      refine AllReady.cons rfl (fun K hK => ?_) AllReady.nil
      go_simp
      refine hK _ _ ?_
      clear hK K
      refine wpAny_ready (rs := [6]) (by kernel_rfl) (by simp) ?_
      refine AllReady.cons rfl (fun K hK => ?_) AllReady.nil
      go_simp
      go_wp2_with (go_at_call 96; refine (l3Small_any s1 o1 n1 c1 d1 s2 o2 n2 c2 d2 s3 o3 n3 c3 d3 x y z 8 (by omega) _ N1 N2 N3).mono ?_; rintro e w3 ⟨rfl, hB⟩; rw [h1]; (first | (replace X0 := X0.step hB; replace HB := HB.trans (hB.mono HB.size)) | (replace X0 := X0.drew.step hB; replace HB := HB.drew.trans (hB.mono HB.size))); clear hB; clear q0 q1 q2 q3 q4 q5 X0 N1 N2 N3)
      (try (refine hK _ _ ?_; clear hK K))
      refine wpAny_ready (rs := [7]) (by kernel_rfl) (by simp) ?_
      refine AllReady.cons rfl (fun K hK => ?_) AllReady.nil
      go_simp
      refine hK _ _ ?_
      clear hK K
      refine wpAny_ready (rs := [8]) (by kernel_rfl) (by simp) ?_
      refine AllReady.cons rfl (fun K hK => ?_) AllReady.nil
      go_simp
      refine hK _ _ ?_
      clear hK K
      refine wpAny_take (i := 9) (v := undef) rfl (by kernel_rfl) (by kernel_rfl) (by kernel_rfl) (fun _ _ _ h => h) (Or.inr ⟨by kernel_rfl, rfl⟩) ?_
      refine wpAny_take (i := 10) (v := undef) rfl (by kernel_rfl) (by kernel_rfl) (by kernel_rfl) (fun _ _ _ h => h) (Or.inr ⟨by kernel_rfl, rfl⟩) ?_
      refine wpAny_take (i := 11) (v := undef) rfl (by kernel_rfl) (by kernel_rfl) (by kernel_rfl) (fun _ _ _ h => h) (Or.inr ⟨by kernel_rfl, rfl⟩) ?_
      refine wpAny_take (i := 12) (v := undef) rfl (by kernel_rfl) (by kernel_rfl) (by kernel_rfl) (fun _ _ _ h => h) (Or.inr ⟨by kernel_rfl, rfl⟩) ?_
      refine wpAny_take (i := 13) (v := undef) rfl (by kernel_rfl) (by kernel_rfl) (by kernel_rfl) (fun _ _ _ h => h) (Or.inr ⟨by kernel_rfl, rfl⟩) ?_
      refine wpAny_take (i := 14) (v := undef) rfl (by kernel_rfl) (by kernel_rfl) (by kernel_rfl) (fun _ _ _ h => h) (Or.inr ⟨by kernel_rfl, rfl⟩) ?_
      refine wpAny_take (i := 15) (v := undef) rfl (by kernel_rfl) (by kernel_rfl) (by kernel_rfl) (fun _ _ _ h => h) (Or.inr ⟨by kernel_rfl, rfl⟩) ?_
      refine wpAny_take (i := 16) (v := undef) rfl (by kernel_rfl) (by kernel_rfl) (by kernel_rfl) (fun _ _ _ h => h) (Or.inr ⟨by kernel_rfl, rfl⟩) ?_
      refine wpAny_take (i := 17) (v := undef) rfl (by kernel_rfl) (by kernel_rfl) (by kernel_rfl) (fun _ _ _ h => h) (Or.inr ⟨by kernel_rfl, rfl⟩) ?_
      refine wpAny_take (i := 18) (v := undef) rfl (by kernel_rfl) (by kernel_rfl) (by kernel_rfl) (fun _ _ _ h => h) (Or.inr ⟨by kernel_rfl, rfl⟩) ?_
      refine wpAny_take (i := 19) (v := undef) rfl (by kernel_rfl) (by kernel_rfl) (by kernel_rfl) (fun _ _ _ h => h) (Or.inr ⟨by kernel_rfl, rfl⟩) ?_
      refine wpAny_ready (rs := [20]) (by kernel_rfl) (by simp) ?_
      refine AllReady.cons rfl (fun K hK => ?_) AllReady.nil
      go_simp
      refine hK _ _ ?_
      clear hK K
      refine wpAny_ready (rs := [21]) (by kernel_rfl) (by simp) ?_
      refine AllReady.cons rfl (fun K hK => ?_) AllReady.nil
      go_simp
      refine hK _ _ ?_
      clear hK K
      refine wpAny_done (by kernel_rfl) ?_ _
      go_wp2
      go_ret
      exact ⟨by rw [HR.out]; rfl, by first | exact HB | exact HB.drew⟩
  · have HR : Hid (ptB x y z = false) := by show _ = _; unfold ptB; simp [hs]
    have hcs : cmpI z 0 = -1 ∨ cmpI z 0 = 0 := by
      rcases Int.lt_trichotomy z 0 with h | h | h
      · exact Or.inl (cmpI_lt h)
      · exact Or.inr (cmpI_eq h)
      · exact absurd h hs
    have q0 := X0.c 0 rfl; have q1 := X0.c 1 rfl; have q2 := X0.c 2 rfl; have q3 := X0.c 3 rfl; have q4 := X0.c 4 rfl; have q5 := X0.c 5 rfl
    obtain ⟨q, hq⟩ : ∃ q, cmpI z 0 = q := ⟨_, rfl⟩
    rw [hq] at hcs
    have hd1 : decide (0 < q) = false := by rcases hcs with rfl | rfl <;> rfl
    clear hcs hs
    refine wp_region_any (by kernel_rfl) ?_
    try (change wpAny _ _ _ _ _ _ _ (World.drew _))
    refine wpAny_ready (rs := [0]) (by kernel_rfl) (by simp) ?_
    refine AllReady.cons rfl (fun K hK => ?_) AllReady.nil
    go_simp
    refine hK _ _ ?_
    clear hK K
    refine wpAny_ready (rs := [1]) (by kernel_rfl) (by simp) ?_
    refine AllReady.cons rfl (fun K hK => ?_) AllReady.nil
    go_simp
    refine hK _ _ ?_
    clear hK K
    refine wpAny_ready (rs := [2]) (by kernel_rfl) (by simp) ?_
    refine AllReady.cons rfl (fun K hK => ?_) AllReady.nil
    go_simp
    go_wp2_with (go_at_call 91; refine (sign_any s3 o3 n3 c3 d3 _ 8 _ N3).mono ?_; rintro e w2 ⟨rfl, hB⟩; rw [hq]; (first | (replace X0 := X0.step hB; replace HB := HB.trans (hB.mono HB.size)) | (replace X0 := X0.drew.step hB; replace HB := HB.drew.trans (hB.mono HB.size))); clear hB; clear q0 q1 q2 q3 q4 q5 X0 N1 N2 N3)
    (try (refine hK _ _ ?_; clear hK K))
    refine wpAny_ready (rs := [3]) (by kernel_rfl) (by simp) ?_
    refine AllReady.cons rfl (fun K hK => ?_) AllReady.nil
    go_simp
    refine hK _ _ ?_
    clear hK K
    refine wpAny_ready (rs := [4]) (by kernel_rfl) (by simp) ?_
    refine AllReady.cons rfl (fun K hK => ?_) AllReady.nil
    go_simp
    refine hK _ _ ?_
    clear hK K
    refine wpAny_take (i := 5) (v := undef) rfl (by kernel_rfl) (by kernel_rfl) (by kernel_rfl) (fun _ _ _ h => h) (Or.inr ⟨by kernel_rfl, rfl⟩) ?_
    refine wpAny_take (i := 6) (v := undef) rfl (by kernel_rfl) (by kernel_rfl) (by kernel_rfl) (fun _ _ _ h => h) (Or.inr ⟨by kernel_rfl, rfl⟩) ?_
    refine wpAny_ready (rs := [7]) (by kernel_rfl) (by simp) ?_
    refine AllReady.cons rfl (fun K hK => ?_) AllReady.nil
    go_simp
    refine hK _ _ ?_
    clear hK K
    refine wpAny_ready (rs := [8]) (by kernel_rfl) (by simp) ?_
    refine AllReady.cons rfl (fun K hK => ?_) AllReady.nil
    go_simp
    refine hK _ _ ?_
    clear hK K
    refine wpAny_take (i := 9) (v := undef) rfl (by kernel_rfl) (by kernel_rfl) (by kernel_rfl) (fun _ _ _ h => h) (Or.inr ⟨by kernel_rfl, rfl⟩) ?_
    refine wpAny_take (i := 10) (v := undef) rfl (by kernel_rfl) (by kernel_rfl) (by kernel_rfl) (fun _ _ _ h => h) (Or.inr ⟨by kernel_rfl, rfl⟩) ?_
    refine wpAny_take (i := 11) (v := undef) rfl (by kernel_rfl) (by kernel_rfl) (by kernel_rfl) (fun _ _ _ h => h) (Or.inr ⟨by kernel_rfl, rfl⟩) ?_
    refine wpAny_take (i := 12) (v := undef) rfl (by kernel_rfl) (by kernel_rfl) (by kernel_rfl) (fun _ _ _ h => h) (Or.inr ⟨by kernel_rfl, rfl⟩) ?_
    refine wpAny_take (i := 13) (v := undef) rfl (by kernel_rfl) (by kernel_rfl) (by kernel_rfl) (fun _ _ _ h => h) (Or.inr ⟨by kernel_rfl, rfl⟩) ?_
    refine wpAny_take (i := 14) (v := undef) rfl (by kernel_rfl) (by kernel_rfl) (by kernel_rfl) (fun _ _ _ h => h) (Or.inr ⟨by kernel_rfl, rfl⟩) ?_
    refine wpAny_take (i := 15) (v := undef) rfl (by kernel_rfl) (by kernel_rfl) (by kernel_rfl) (fun _ _ _ h => h) (Or.inr ⟨by kernel_rfl, rfl⟩) ?_
    refine wpAny_take (i := 16) (v := undef) rfl (by kernel_rfl) (by kernel_rfl) (by kernel_rfl) (fun _ _ _ h => h) (Or.inr ⟨by kernel_rfl, rfl⟩) ?_
    refine wpAny_take (i := 17) (v := undef) rfl (by kernel_rfl) (by kernel_rfl) (by kernel_rfl) (fun _ _ _ h => h) (Or.inr ⟨by kernel_rfl, rfl⟩) ?_
    refine wpAny_take (i := 18) (v := undef) rfl (by kernel_rfl) (by kernel_rfl) (by kernel_rfl) (fun _ _ _ h => h) (Or.inr ⟨by kernel_rfl, rfl⟩) ?_
    refine wpAny_take (i := 19) (v := undef) rfl (by kernel_rfl) (by kernel_rfl) (by kernel_rfl) (fun _ _ _ h => h) (Or.inr ⟨by kernel_rfl, rfl⟩) ?_
    refine wpAny_ready (rs := [20]) (by kernel_rfl) (by simp) ?_
    refine AllReady.cons rfl (fun K hK => ?_) AllReady.nil
    go_simp
    refine hK _ _ ?_
    clear hK K
    refine wpAny_ready (rs := [21]) (by kernel_rfl) (by simp) ?_
    refine AllReady.cons rfl (fun K hK => ?_) AllReady.nil
    go_simp
    refine hK _ _ ?_
    clear hK K
    refine wpAny_done (by kernel_rfl) ?_ _
    go_wp2
    go_ret
    exact ⟨by rw [HR.out]; rfl, by first | exact HB | exact HB.drew⟩
end Go.Proofs.Ytnnojeggjnddpaa

/- Fractions: the model's word on whether one is right, and the law over both. -/
namespace Go.Proofs.Ytnnojeggjnddpaa
open Go.RowKit
end Go.Proofs.Ytnnojeggjnddpaa

/- A number read from its text: the reckoning, of no program. -/
namespace Go.Proofs.Ytnnojeggjnddpaa
/-- Bytes without a sign. -/
def cutM (l : List Nat) : List Nat := if l.head? = some 45 then l.tail else l
/-- That bytes are a number of at most 77 digits as it is written. -/
def RdOk (l : List Nat) : Prop := DecL (cutM l) ∧ (cutM l).length ≤ 77 ∧ ¬ (l.head? = some 45 ∧ cutM l = [48])
/-- The number that bytes stand for. -/
def rdI (l : List Nat) : Int := if l.head? = some 45 then -(rdN (cutM l) : Int) else (rdN (cutM l) : Int)
theorem cutM_neg {l : List Nat} (h : l.head? = some 45) : l = 45 :: cutM l := by
  unfold cutM
  rw [if_pos h]
  cases l with
  | nil => simp at h
  | cons x t => simp only [List.head?_cons, Option.some.injEq] at h; rw [h]; rfl
theorem cutM_pos {l : List Nat} (h : ¬ l.head? = some 45) : cutM l = l := by unfold cutM; rw [if_neg h]
theorem rd_tx {l : List Nat} (h : RdOk l) : txL (rdI l) = l := by
  obtain ⟨h1, h2, h3⟩ := h
  have h4 := dgs_rdN h1
  unfold txL rdI
  by_cases hn : l.head? = some 45
  · rw [if_pos hn]
    have h5 : rdN (cutM l) ≠ 0 := by
      intro h6
      rw [h6, dgs_zero] at h4
      exact h3 ⟨hn, h4.symm⟩
    rw [if_pos (by omega), Int.natAbs_neg, Int.natAbs_natCast, h4]
    exact (cutM_neg hn).symm
  · rw [if_neg hn, if_neg (by omega), Int.natAbs_natCast, h4, cutM_pos hn]
    rfl
theorem head_dgs (n : Nat) : ¬ (dgs n).head? = some 45 := by
  intro h
  have h1 := dgs_isD n 45 (List.mem_of_mem_head? h)
  unfold isD at h1
  omega
theorem tx_neg {z : Int} (h : z < 0) : txL z = 45 :: dgs z.natAbs := by unfold txL; rw [if_pos h]; rfl
theorem tx_pos {z : Int} (h : ¬ z < 0) : txL z = dgs z.natAbs := by unfold txL; rw [if_neg h]; rfl
theorem tx_rd {z : Int} (h : z.natAbs < 10 ^ 77) : RdOk (txL z) ∧ rdI (txL z) = z := by
  have h1 := dgs_dec z.natAbs
  have h2 := dgs_len (k := 77) (by omega) h
  by_cases hz : z < 0
  · have hc : cutM (txL z) = dgs z.natAbs := by unfold cutM; rw [tx_neg hz]; rfl
    have hh : (txL z).head? = some 45 := by rw [tx_neg hz]; rfl
    refine ⟨⟨by rw [hc]; exact h1, by rw [hc]; exact h2, fun h3 => ?_⟩, ?_⟩
    · rw [hc] at h3
      have h4 := congrArg rdN h3.2
      rw [rdN_dgs] at h4
      have : z.natAbs = 0 := h4
      omega
    · unfold rdI
      rw [if_pos hh, hc, rdN_dgs]
      omega
  · have hh : ¬ (txL z).head? = some 45 := by rw [tx_pos hz]; exact head_dgs _
    have hc : cutM (txL z) = dgs z.natAbs := by rw [cutM_pos hh, tx_pos hz]
    refine ⟨⟨by rw [hc]; exact h1, by rw [hc]; exact h2, fun h3 => hh h3.1⟩, ?_⟩
    unfold rdI
    rw [if_neg hh, hc, rdN_dgs]
    omega
theorem tx_len {z : Int} (h : z.natAbs < 10 ^ 77) : (txL z).length ≤ 78 := by
  have h2 := dgs_len (k := 77) (by omega) h
  by_cases hz : z < 0
  · rw [tx_neg hz, List.length_cons]; omega
  · rw [tx_pos hz]; omega
theorem tx_inj {x y : Int} (h : txL x = txL y) : x = y := by
  by_cases hx : x < 0 <;> by_cases hy : y < 0
  · rw [tx_neg hx, tx_neg hy, List.cons.injEq] at h
    have := congrArg rdN h.2
    rw [rdN_dgs, rdN_dgs] at this
    omega
  · rw [tx_neg hx, tx_pos hy] at h
    exact absurd (by rw [← h]; rfl) (head_dgs y.natAbs)
  · rw [tx_pos hx, tx_neg hy] at h
    exact absurd (by rw [h]; rfl) (head_dgs x.natAbs)
  · rw [tx_pos hx, tx_pos hy] at h
    have := congrArg rdN h
    rw [rdN_dgs, rdN_dgs] at this
    omega
/-- What is asked of bytes ahead of their digits. -/
def TestL (l : List Nat) : Prop := cutM l ≠ [] ∧ (cutM l).length ≤ 77 ∧ ¬ ((cutM l).head? = some 48 ∧ (l.head? = some 45 ∨ 1 < (cutM l).length))
theorem rdOk_iff {l : List Nat} : RdOk l ↔ TestL l ∧ ∀ b ∈ cutM l, isD b := by
  unfold RdOk TestL DecL
  constructor
  · rintro ⟨⟨h1, h2, h3⟩, h4, h5⟩
    refine ⟨⟨h1, h4, fun h => ?_⟩, h3⟩
    have h6 := h2 h.1
    rcases h.2 with h7 | h7
    · exact h5 ⟨h7, h6⟩
    · rw [h6] at h7; simp at h7
  · rintro ⟨⟨h1, h4, h5⟩, h3⟩
    refine ⟨⟨h1, fun h => ?_, h3⟩, h4, fun h => h5 ⟨by rw [h.2]; rfl, Or.inl h.1⟩⟩
    have h6 : ¬ 1 < (cutM l).length := fun h7 => h5 ⟨h, Or.inr h7⟩
    cases hc : cutM l with
    | nil => exact absurd hc h1
    | cons x t =>
      rw [hc] at h h6
      cases t with
      | nil => simp only [List.head?_cons, Option.some.injEq] at h; rw [h]
      | cons y m => simp at h6
theorem cutM_lt {l : List Nat} (h : ∀ b ∈ l, b < 256) : ∀ b ∈ cutM l, b < 256 := by
  intro b hb
  unfold cutM at hb
  split at hb
  · exact h b (List.mem_of_mem_tail hb)
  · exact h b hb
theorem cutM_len (l : List Nat) : (cutM l).length ≤ l.length := by
  unfold cutM
  split
  · rw [List.length_tail]; omega
  · exact Nat.le_refl _
theorem btL_extract (s : ByteArray) (a b : Nat) : btL (s.extract a b) = ((btL s).drop a).take (b - a) := by
  unfold btL
  rw [ByteArray.data_extract, Array.toList_extract, List.extract_eq_take_drop, List.map_take, List.map_drop]
end Go.Proofs.Ytnnojeggjnddpaa

/- The texts of fractions and of points: the program's. -/
namespace Go.Proofs.Ytnnojeggjnddpaa
open Go.RowKit
/-- What stands under a number, as it is written. -/
def unL (y : Int) : List Nat := if y = 1 then [] else 47 :: txL y
def ptL (x y z : Int) : List Nat := txL x ++ (44 :: (txL y ++ unL z))
theorem unL_one : unL 1 = [] := by unfold unL; rw [if_pos rfl]
theorem unL_not {y : Int} (h : ¬ y = 1) : unL y = 47 :: txL y := by unfold unL; rw [if_neg h]
theorem told77 {z : Int} (h : told z = true) : z.natAbs < 10 ^ 77 := by
  have := of_decide_eq_true h
  omega
theorem txS_le {z : Int} (h : told z = true) : (txS z).size ≤ 78 := by
  unfold txS
  rw [strL_size]
  exact tx_len (told77 h)
theorem one_det (w : World) : Calls Try.prog 95 #[.int .i64 1] w (VP (W4 1) w) := by
  refine (implOf_any 1 w (by decide) (by decide)).mono ?_
  rintro e w1 ⟨a3, a2, a1, a0, rfl, h3, h2, h1, h0, hz, hB⟩
  obtain ⟨rfl, rfl, rfl, rfl⟩ := wd_of h3 h2 h1 h0 hz
  exact ⟨rfl, hB⟩
theorem told_one : told 1 = true := by decide
set_option maxRecDepth 100000 in
set_option maxHeartbeats 2000000 in
theorem eqW10 (x u : Int) (hx : told x = true) (hu : told u = true) (w : World) : (Op.equalIn 10000 26 (W4 x) (W4 u)).run Try.prog w = .ok (decide (x = u)) w := by
  have E : ∀ a3 a2 a1 a0 b3 b2 b1 b0 : Int, (Op.equalIn 10000 26 (.agg #[.int .u64 a3, .int .u64 a2, .int .u64 a1, .int .u64 a0]) (.agg #[.int .u64 b3, .int .u64 b2, .int .u64 b1, .int .u64 b0])).run Try.prog w = .ok (a3 == b3 && a2 == b2 && a1 == b1 && a0 == b0) w := by
    intro a3 a2 a1 a0 b3 b2 b1 b0
    have u3 := Try.underlying22
    have a3' := Try.isAgg22
    have z3 := Try.sizeOf22
    rw [show (10000 : Nat) = 9999 + 1 from rfl, Op.equalIn]
    simp only [Sem.run_bind, run_underlying Try.underlying26, Result.andThen_ok]
    go_simp
    by_cases h3 : a3 = b3
    · subst h3
      by_cases h2 : a2 = b2
      · subst h2
        by_cases h1 : a1 = b1
        · subst h1
          by_cases h0 : a0 = b0
          · subst h0
            simp
          · simp [h0]
        · simp [h1]
      · simp [h2]
    · simp [h3]
  rw [E]
  congr 1
  rw [Bool.eq_iff_iff]
  simp only [Bool.and_eq_true, beq_iff_eq, decide_eq_true_eq]
  constructor
  · rintro ⟨⟨⟨e3, e2⟩, e1⟩, e0⟩
    rw [← ww_sw hx, ← ww_sw hu, e3, e2, e1, e0]
  · rintro rfl
    exact ⟨⟨⟨rfl, rfl⟩, rfl⟩, rfl⟩
end Go.Proofs.Ytnnojeggjnddpaa

/- Ten times a number of four words and one more digit. -/
namespace Go.Proofs.Ytnnojeggjnddpaa
open Go.RowKit
theorem ix4 (x0 x1 x2 x3 : Int) (k : Nat) (hk : k < [x0, x1, x2, x3].length) (w : World) : (Instr.index 70 (.agg #[.int .u64 x0, .int .u64 x1, .int .u64 x2, .int .u64 x3]) (.int .i64 k)).run Try.prog w = .ok (.int .u64 [x0, x1, x2, x3][k]) w := by
  match k, hk with
  | 0, _ => exact (show (Instr.index 70 (.agg #[.int .u64 x0, .int .u64 x1, .int .u64 x2, .int .u64 x3]) (.int .i64 ((0 : Nat) : Int))).run Try.prog w = .ok (.int .u64 x0) w by kernel_rfl)
  | 1, _ => exact (show (Instr.index 70 (.agg #[.int .u64 x0, .int .u64 x1, .int .u64 x2, .int .u64 x3]) (.int .i64 ((1 : Nat) : Int))).run Try.prog w = .ok (.int .u64 x1) w by kernel_rfl)
  | 2, _ => exact (show (Instr.index 70 (.agg #[.int .u64 x0, .int .u64 x1, .int .u64 x2, .int .u64 x3]) (.int .i64 ((2 : Nat) : Int))).run Try.prog w = .ok (.int .u64 x2) w by kernel_rfl)
  | 3, _ => exact (show (Instr.index 70 (.agg #[.int .u64 x0, .int .u64 x1, .int .u64 x2, .int .u64 x3]) (.int .i64 ((3 : Nat) : Int))).run Try.prog w = .ok (.int .u64 x3) w by kernel_rfl)
/-- The words ahead of a place, ten times; what is over. -/
structure TfI (xs zs : List Int) (d : Int) (k : Nat) (o : Int) : Prop where
  len : zs.length = 4
  wds : Words zs
  o0 : 0 ≤ o
  o1 : o < 10
  eq : val64 (zs.take k) + pw64 k * o = 10 * val64 (xs.take k) + d
theorem tf_start {xs : List Int} (hl : xs.length = 4) (hx : Words xs) {d : Int} (h0 : 0 ≤ d) (h1 : d < 10) : TfI xs xs d 0 d :=
  ⟨hl, hx, h0, h1, by simp [val64, pw64]⟩
theorem tf_step {xs zs : List Int} {d : Int} {k : Nat} {o : Int} (h : TfI xs zs d k o) (hk : k < xs.length) (hz : k < zs.length) (hx : Word xs[k]) (t : Int) (ht : t = xs[k] * 10 + o) : TfI xs (zs.set k (t % 18446744073709551616)) d (k + 1) (t / 18446744073709551616) := by
  obtain ⟨h1, h2, h3, h4, h5⟩ := h
  unfold Word at hx
  refine ⟨by simpa using h1, words_set h2 k ⟨by omega, by omega⟩, by omega, by omega, ?_⟩
  rw [val64_take (zs.set k (t % 18446744073709551616)) k (by simpa using hz), List.getElem_set_self, val64_take xs k hk, List.take_set_of_le (Nat.le_refl k), pw64]
  have e2 : t = t % 18446744073709551616 + 18446744073709551616 * (t / 18446744073709551616) := by omega
  generalize t / 18446744073709551616 = q at *
  generalize t % 18446744073709551616 = r at *
  generalize xs[k] = x at *
  generalize pw64 k = p at *
  generalize val64 (zs.take k) = a at *
  generalize val64 (xs.take k) = b at *
  clear h1 h2
  grind
theorem tf_arith {x o : Int} (h0 : 0 ≤ o) (h1 : o < 10) : Word (x * 10 % 18446744073709551616) ∧ Word o ∧ (x * 10 % 18446744073709551616 + o) % 18446744073709551616 = (x * 10 + o) % 18446744073709551616 ∧ x * 10 / 18446744073709551616 + (x * 10 % 18446744073709551616 + o) / 18446744073709551616 = (x * 10 + o) / 18446744073709551616 := by
  unfold Word at *
  omega
set_option maxRecDepth 100000 in
set_option maxHeartbeats 1000000 in
theorem tenfold_any (xs : List Int) (d : Int) (hl : xs.length = 4) (hx : Words xs) (h0 : 0 ≤ d) (h1 : d < 10) (hb : 10 * val64 xs + d < 115792089237316195423570985008687907853269984665640564039457584007913129639936) (w : World) : Calls Try.prog 51 #[agg xs, .int .u64 d] w (AggP 4 (10 * val64 xs + d) w) := by
  have HI : Hid (TfI xs xs d 0 d) := tf_start hl hx h0 h1
  have HX : Hid (Words xs) := hx
  have HL : Hid (xs.length = 4) := hl
  have HBD : Hid (10 * val64 xs + d < 115792089237316195423570985008687907853269984665640564039457584007913129639936) := hb
  obtain ⟨x0, x1, x2, x3, hxs⟩ := list4 hl
  have HA : agg xs = .agg #[.int .u64 x0, .int .u64 x1, .int .u64 x2, .int .u64 x3] := by rw [hxs]; rfl
  have AG := ix4 x0 x1 x2 x3
  rw [← hxs] at AG
  rw [HA]
  have HS : Mk w ((w.alloc (.cells #[.int .u64 x0, .int .u64 x1, .int .u64 x2, .int .u64 x3] 70)).alloc (.cells #[.int .u64 0, .int .u64 0, .int .u64 0, .int .u64 0] 70)) (w.heap.size + 1) w.heap.size (List.replicate 4 (.int .u64 0)) xs :=
    ⟨((Below.refl _ _).alloc (Nat.le_refl _) _).alloc (by simp) _, Blk.new _ [.int .u64 0, .int .u64 0, .int .u64 0, .int .u64 0] _ (by simp), by rw [hxs]; exact (Blk.new w [.int .u64 x0, .int .u64 x1, .int .u64 x2, .int .u64 x3] _ rfl).alloc _⟩
  clear hl hx HA hxs hb
  go_enter Try.func51, Try.ntmps51
  go_wp2
  generalize ((w.alloc (.cells #[.int .u64 x0, .int .u64 x1, .int .u64 x2, .int .u64 x3] 70)).alloc (.cells #[.int .u64 0, .int .u64 0, .int .u64 0, .int .u64 0] 70)) = W at *
  go_loopw [5, 13] (fun ov i wr => ∃ (k : Nat) (o : Int) (zs : List Int), k ≤ 4 ∧ i = .int .i64 k ∧ ov = .int .u64 o ∧ TfI xs zs d k o ∧ Mk w wr (w.heap.size + 1) w.heap.size (List.replicate 4 (.int .u64 0)) zs) (fun _ i _ => 4 - (intOf i).toNat)
  case atStart => exact ⟨0, d, _, by omega, rfl, rfl, HI.out, HS⟩
  case round =>
    clear HI HS h0 h1
    obtain ⟨k, o, zs, hk, rfl, rfl, hI, hM⟩ := hrel
    have hlen := hI.len
    by_cases hk4 : k < 4
    · have hkx : k < xs.length := by have := HL.out; omega
      have ag := AG k hkx
      have hz : k < zs.length := by omega
      obtain ⟨q1, q2⟩ := hM.cp k hz
      have hwx : Word xs[k] := words_at HX.out k hkx
      obtain ⟨t1, t2, t3, t4⟩ := tf_arith (x := xs[k]) hI.o0 hI.o1
      obtain ⟨hi, ehi⟩ : ∃ v, xs[k] * 10 / 18446744073709551616 = v := ⟨_, rfl⟩
      obtain ⟨lo, elo⟩ : ∃ v, xs[k] * 10 % 18446744073709551616 = v := ⟨_, rfl⟩
      have M1 := mul64d xs[k] 10 hi lo hwx ⟨by decide, by decide⟩ ehi elo
      rw [elo] at t1 t3 t4
      rw [ehi] at t4
      obtain ⟨n1, en1⟩ : ∃ v, (lo + o) % 18446744073709551616 = v := ⟨_, rfl⟩
      obtain ⟨c1, ec1⟩ : ∃ v, (lo + o) / 18446744073709551616 = v := ⟨_, rfl⟩
      have A1 := add64d lo o n1 c1 t1 t2 en1 ec1
      have R1 := tf_step hI hkx hz hwx _ rfl
      rw [← t3, ← t4, en1, ec1] at R1
      have R2 : Hid (TfI xs (zs.set k n1) d (k + 1) (hi + c1)) := R1
      have d4 : 0 ≤ hi + c1 := R1.o0
      have d5 : hi + c1 < 10 := R1.o1
      have M3 : Hid (Mk w (wr.setCell ⟨w.heap.size, k, none⟩ (.int .u64 n1)) (w.heap.size + 1) w.heap.size (List.replicate 4 (.int .u64 0)) (zs.set k n1)) := hM.set (by omega) (Nat.le_refl _) k hz n1
      have hkI : (k : Int) < 4 := by omega
      clear hI hM t1 t2 t3 t4 ehi elo en1 ec1 R1 AG hwx
      go_wp2_with fail
      refine (M1 _).mono ?_
      rintro e w1 ⟨rfl, rfl⟩
      clear M1
      go_wp2
      go_roundw
      case rel => exact ⟨k + 1, _, _, by omega, by go_num, rfl, R2.out, M3.out⟩
      case measure => simp [intOf]; omega
    · obtain rfl : k = 4 := by omega
      have HV := hI.eq
      have HW := hI.wds
      have ho0 := hI.o0
      obtain ⟨z0, z1, z2, z3, rfl⟩ := list4 hlen
      obtain ⟨c0, f0⟩ := hM.cp 0 (by simp)
      obtain ⟨c1, f1⟩ := hM.cp 1 (by simp)
      obtain ⟨c2, f2⟩ := hM.cp 2 (by simp)
      obtain ⟨c3, f3⟩ := hM.cp 3 (by simp)
      have d0 := hM.r.c 0 rfl; have e0 := hM.r.f 0 rfl
      have d1 := hM.r.c 1 rfl; have e1 := hM.r.f 1 rfl
      have d2 := hM.r.c 2 rfl; have e2 := hM.r.f 2 rfl
      have d3 := hM.r.c 3 rfl; have e3 := hM.r.f 3 rfl
      have HB := hM.below
      simp only [List.getElem_cons_zero, List.getElem_cons_succ] at c0 c1 c2 c3
      have HV2 : Hid (val64 [z0, z1, z2, z3] = 10 * val64 xs + d) := by
        show _ = _
        rw [List.take_of_length_le (by simp), List.take_of_length_le (by rw [HL.out]; omega), show pw64 4 = 115792089237316195423570985008687907853269984665640564039457584007913129639936 by decide] at HV
        have h8 := val64_nonneg HW
        have h9 := HBD.out
        omega
      clear hI hM hlen HV ho0
      go_wp2
      refine bodyPost_ret (v := .agg #[.int .u64 z0, .int .u64 z1, .int .u64 z2, .int .u64 z3]) (by simp [results, Try.results51, go_sem, d0, d1, d2, d3]) rfl ?_
      refine ⟨[z0, z1, z2, z3], rfl, rfl, HW, HV2.out, ?_⟩
      repeat' (refine Below.setCell ?_ (by simp) _)
      exact HB
end Go.Proofs.Ytnnojeggjnddpaa

/- Texts of nine bytes: matrices and masks, on both sides. -/
namespace Go.Proofs.Ytnnojeggjnddpaa
open Go.RowKit
/-- The byte of a text at a place. -/
def bt (s : ByteArray) (i : Nat) : Nat := (s.data.toList.getD i 0).toNat
theorem bt_at {s : ByteArray} {i : Nat} (h : i < s.size) : s[i].toNat = bt s i := by
  have h2 : i < s.data.size := h
  show (s.data[i]).toNat = _
  unfold bt
  rw [List.getD_eq_getElem?_getD, Array.getElem?_toList, Array.getElem?_eq_getElem h2]; rfl
theorem bt_lt (s : ByteArray) (i : Nat) : bt s i < 256 := UInt8.toNat_lt _
/-- That a text has just the bytes of a list. -/
def Bytes (ts : ByteArray) (t : List Nat) : Prop := ∀ n : Nat, n < 256 → (0 ≤ Lib.indexByte ts.data.toList (Int.toNat (n : Int)).toUInt8 ↔ n ∈ t)
set_option maxRecDepth 100000 in
set_option maxHeartbeats 1000000 in
theorem idxB_any (s : ByteArray) (c : Int) (w : World) : Calls Try.prog 126 #[.string s, .int .u8 c] w (VP (.int .i64 (Lib.indexByte s.data.toList c.toNat.toUInt8)) w) := by
  go_enter Try.func126, Try.ntmps126
  go_wp2
  rw [run_callFunc_extern Try.func134 (by kernel_rfl) (by kernel_rfl) (by kernel_rfl) (e := Extern.BytealgIndexByte.indexByte) (by kernel_rfl), Lib.run_indexByteString]
  simp only [Result.andThen]
  rw [Oper.upon_value]
  go_wp2
  go_ret
  exact ⟨rfl, Below.refl _ _⟩
end Go.Proofs.Ytnnojeggjnddpaa

/- Whether a text is a number in decimal, and a text without its sign: the program's. -/
namespace Go.Proofs.Ytnnojeggjnddpaa
open Go.RowKit
theorem tl_data (s : ByteArray) : s.toList = s.data.toList := Lib.toList_data s
theorem tl_btL (s : ByteArray) : btL s = s.toList.map UInt8.toNat := by rw [tl_data]; rfl
theorem btL_getQ {s : ByteArray} {i : Nat} (h : i < s.size) : (btL s)[i]? = some (bt s i) := by
  have h2 : i < s.data.toList.length := h
  unfold btL bt
  rw [List.getElem?_map, List.getD_eq_getElem?_getD, List.getElem?_eq_getElem h2]
  rfl
theorem btL_get {s : ByteArray} {i : Nat} (h : i < (btL s).length) : (btL s)[i] = bt s i := (List.getElem?_eq_some_iff.1 (btL_getQ (by rw [btL_len] at h; exact h))).2
theorem tl_nil {s : ByteArray} : s.toList = [] ↔ btL s = [] := by rw [tl_btL, List.map_eq_nil_iff]
theorem tl_one {s : ByteArray} (c : UInt8) : s.toList = [c] ↔ btL s = [c.toNat] := by
  rw [tl_btL]
  constructor
  · intro h; rw [h]; rfl
  · intro h
    cases hl : s.toList with
    | nil => rw [hl] at h; simp at h
    | cons x l =>
      rw [hl] at h
      cases l with
      | nil => simp only [List.map_cons, List.map_nil, List.cons.injEq, and_true] at h; rw [UInt8.toNat_inj.1 h]
      | cons y m => simp at h
theorem btL_head {s : ByteArray} (h : 0 < s.size) : (btL s).head? = some (bt s 0) := by
  have h2 : 0 < (btL s).length := by rw [btL_len]; exact h
  rw [List.head?_eq_getElem?, List.getElem?_eq_getElem h2, btL_get h2]
theorem btL_mem {s : ByteArray} {P : Nat → Prop} : (∀ b ∈ btL s, P b) ↔ ∀ j, j < s.size → P (bt s j) := by
  rw [← btL_len]
  constructor
  · intro h j hj
    rw [← btL_get hj]
    exact h _ (List.getElem_mem hj)
  · intro h b hb
    obtain ⟨j, hj, rfl⟩ := List.getElem_of_mem hb
    rw [btL_get hj]
    exact h j hj
set_option maxRecDepth 100000 in
set_option maxHeartbeats 1000000 in
theorem isDecimal_any (s : ByteArray) (hm : s.size ≤ 9223372036854775807) (b : Bool) (hb : b = true ↔ DecL (btL s)) (w : World) : Calls Try.prog 50 #[.string s] w (VP (.bool b) w) := by
  have HB : Hid (b = true ↔ DecL (btL s)) := hb
  clear hb
  by_cases h0 : s.toList = []
  · obtain rfl : b = false := by
      cases b
      · rfl
      · exact absurd (tl_nil.1 h0) (HB.out.1 rfl).1
    have e1 : s.toList.isEmpty = true := by rw [h0]; rfl
    clear h0
    go_enter Try.func50, Try.ntmps50
    go_wp2
    go_ret
    exact ⟨rfl, Below.refl _ _⟩
  · have e1 : s.toList.isEmpty = false := by rw [List.isEmpty_eq_false_iff]; exact h0
    have hs : 0 < s.size := by
      rcases Nat.eq_zero_or_pos s.size with h | h
      · exact absurd (tl_nil.2 (List.length_eq_zero_iff.1 (by rw [btL_len]; exact h))) h0
      · exact h
    have hbt := bt_at hs
    have hlt := bt_lt s 0
    by_cases hz : bt s 0 = 48 ∧ ¬ s.toList = [48]
    · obtain ⟨hz0, hz1⟩ := hz
      obtain rfl : b = false := by
        cases b
        · rfl
        · exact absurd ((HB.out.1 rfl).2.1 (by rw [btL_head hs, hz0])) (fun h => hz1 ((tl_one 48).2 h))
      rw [hz0] at hbt
      have e2 : (s.toList == [48]) = false := beq_eq_false_iff_ne.2 hz1
      clear h0 hz1
      go_enter Try.func50, Try.ntmps50
      go_wp2
      go_ret
      exact ⟨rfl, Below.refl _ _⟩
    · have HZ : Hid ((btL s).head? = some 48 → btL s = [48]) := by
        intro h
        rw [btL_head hs] at h
        have h2 : bt s 0 = 48 := by simpa using h
        exact (tl_one 48).1 (Classical.byContradiction fun h3 => hz ⟨h2, h3⟩)
      have hcase : (bt s 0 = 48 ∧ s.toList = [48]) ∨ ¬ bt s 0 = 48 := by
        by_cases h2 : bt s 0 = 48
        · exact Or.inl ⟨h2, Classical.byContradiction fun h3 => hz ⟨h2, h3⟩⟩
        · exact Or.inr h2
      clear hz
      rcases hcase with ⟨h2, h3⟩ | h2
      · have hb0 : ((bt s 0 : Int) == 48) = true := by rw [h2]; rfl
        have e2 : (s.toList == [48]) = true := beq_iff_eq.2 h3
        have H0 : Hid (¬ s.toList = []) := h0
        clear h2 h3 h0
        go_enter Try.func50, Try.ntmps50
        go_wp2
        go_loop [17] (fun i => ∃ c : Nat, c ≤ s.size ∧ i = .int .i64 c ∧ ∀ j, j < c → isD (bt s j)) (fun i => s.size - (intOf i).toNat)
        case atStart => exact ⟨0, by omega, rfl, fun j hj => by omega⟩
        case round =>
          obtain ⟨c, hc, rfl, hI⟩ := hrel
          have HI : Hid (∀ j, j < c → isD (bt s j)) := hI
          clear hI hbt hlt
          by_cases hcs : c < s.size
          · have hbt := bt_at hcs
            have hlt := bt_lt s c
            have hcI : (c : Int) < s.size := by omega
            by_cases hd : isD (bt s c)
            · obtain ⟨hd1, hd2⟩ := hd
              have hd3 : ¬ ((bt s c : Int) < 48) := by omega
              have hd4 : ¬ ((57 : Int) < (bt s c : Int)) := by omega
              go_wp2
              go_round
              case rel => exact ⟨c + 1, by omega, by go_num, fun j hj => by
                by_cases e : j = c
                · rw [e]; exact ⟨hd1, hd2⟩
                · exact HI.out j (by omega)⟩
              case measure => simp [intOf]; omega
            · obtain rfl : b = false := by
                cases b
                · rfl
                · exact absurd (btL_mem.1 (HB.out.1 rfl).2.2 c hcs) hd
              by_cases hd1 : 48 ≤ bt s c
              · have hd3 : ¬ ((bt s c : Int) < 48) := by omega
                have hd4 : (57 : Int) < (bt s c : Int) := by unfold isD at hd; omega
                clear hd
                go_wp2
                go_ret
                exact ⟨rfl, Below.refl _ _⟩
              · have hd3 : (bt s c : Int) < 48 := by omega
                clear hd
                go_wp2
                go_ret
                exact ⟨rfl, Below.refl _ _⟩
          · obtain rfl : c = s.size := by omega
            obtain rfl : b = true := HB.out.2 ⟨fun h => H0.out (tl_nil.2 h), HZ.out, btL_mem.2 HI.out⟩
            go_wp2
            go_ret
            exact ⟨rfl, Below.refl _ _⟩
      · have hb0 : ((bt s 0 : Int) == 48) = false := beq_eq_false_iff_ne.2 (by omega)
        have H0 : Hid (¬ s.toList = []) := h0
        clear h2 h0
        go_enter Try.func50, Try.ntmps50
        go_wp2
        go_loop [17] (fun i => ∃ c : Nat, c ≤ s.size ∧ i = .int .i64 c ∧ ∀ j, j < c → isD (bt s j)) (fun i => s.size - (intOf i).toNat)
        case atStart => exact ⟨0, by omega, rfl, fun j hj => by omega⟩
        case round =>
          obtain ⟨c, hc, rfl, hI⟩ := hrel
          have HI : Hid (∀ j, j < c → isD (bt s j)) := hI
          clear hI hbt hlt
          by_cases hcs : c < s.size
          · have hbt := bt_at hcs
            have hlt := bt_lt s c
            have hcI : (c : Int) < s.size := by omega
            by_cases hd : isD (bt s c)
            · obtain ⟨hd1, hd2⟩ := hd
              have hd3 : ¬ ((bt s c : Int) < 48) := by omega
              have hd4 : ¬ ((57 : Int) < (bt s c : Int)) := by omega
              go_wp2
              go_round
              case rel => exact ⟨c + 1, by omega, by go_num, fun j hj => by
                by_cases e : j = c
                · rw [e]; exact ⟨hd1, hd2⟩
                · exact HI.out j (by omega)⟩
              case measure => simp [intOf]; omega
            · obtain rfl : b = false := by
                cases b
                · rfl
                · exact absurd (btL_mem.1 (HB.out.1 rfl).2.2 c hcs) hd
              by_cases hd1 : 48 ≤ bt s c
              · have hd3 : ¬ ((bt s c : Int) < 48) := by omega
                have hd4 : (57 : Int) < (bt s c : Int) := by unfold isD at hd; omega
                clear hd
                go_wp2
                go_ret
                exact ⟨rfl, Below.refl _ _⟩
              · have hd3 : (bt s c : Int) < 48 := by omega
                clear hd
                go_wp2
                go_ret
                exact ⟨rfl, Below.refl _ _⟩
          · obtain rfl : c = s.size := by omega
            obtain rfl : b = true := HB.out.2 ⟨fun h => H0.out (tl_nil.2 h), HZ.out, btL_mem.2 HI.out⟩
            go_wp2
            go_ret
            exact ⟨rfl, Below.refl _ _⟩
end Go.Proofs.Ytnnojeggjnddpaa

/- A text cut of its sign: the program's. -/
namespace Go.Proofs.Ytnnojeggjnddpaa
open Go.RowKit
theorem ex_head {s : ByteArray} (hs : 0 < s.size) : ((s.extract 0 1).toList == [45]) = decide ((btL s).head? = some 45) := by
  rw [Bool.eq_iff_iff, beq_iff_eq, decide_eq_true_iff, tl_one, btL_extract]
  have h : 0 < (btL s).length := by rw [btL_len]; exact hs
  cases hl : btL s with
  | nil => rw [hl] at h; simp at h
  | cons x t => simp
theorem ex_tail {s : ByteArray} (h : (btL s).head? = some 45) : s.extract 1 s.size = strL (cutM (btL s)) := by
  rw [← strL_btL (s.extract 1 s.size), btL_extract, ← btL_len]
  congr 1
  unfold cutM
  rw [if_pos h, List.drop_one, List.take_of_length_le (by simp)]
set_option maxRecDepth 100000 in
set_option maxHeartbeats 1000000 in
theorem cutPre_any (s : ByteArray) (hm : s.size ≤ 9223372036854775807) (b : Bool) (hb : b = decide ((btL s).head? = some 45)) (w : World) : Calls Try.prog 49 #[.string s, .string ⟨#[45]⟩] w (VP (.tuple #[.string (strL (cutM (btL s))), .bool b]) w) := by
  by_cases h : (btL s).head? = some 45
  · obtain rfl : b = true := by rw [hb]; exact decide_eq_true h
    have hs : 0 < s.size := by
      rw [← btL_len]
      cases hl : btL s with
      | nil => rw [hl] at h; simp at h
      | cons x t => simp
    have e1 := ex_head hs
    rw [← hb] at e1
    have e2 := ex_tail h
    have hs1 : (1 : Int) ≤ s.size := by omega
    clear h hb
    go_enter Try.func49, Try.ntmps49
    go_wp2
    refine bodyPost_ret (v := .tuple #[.string (strL (cutM (btL s))), .bool true]) (by simp [results, Try.results49, go_sem]) rfl ?_
    exact ⟨rfl, Below.refl _ _⟩
  · obtain rfl : b = false := by rw [hb]; exact decide_eq_false h
    have e2 : Hid (strL (cutM (btL s)) = s) := by show _ = _; rw [cutM_pos h, strL_btL]
    rw [e2.out]
    clear e2
    by_cases hs : 0 < s.size
    · have e1 := ex_head hs
      rw [← hb] at e1
      have hs1 : (1 : Int) ≤ s.size := by omega
      clear h hb
      go_enter Try.func49, Try.ntmps49
      go_wp2
      refine bodyPost_ret (v := .tuple #[.string s, .bool false]) (by simp [results, Try.results49, go_sem]) rfl ?_
      exact ⟨rfl, Below.refl _ _⟩
    · have hs1 : ¬ (1 : Int) ≤ s.size := by omega
      clear h hb
      go_enter Try.func49, Try.ntmps49
      go_wp2
      refine bodyPost_ret (v := .tuple #[.string s, .bool false]) (by simp [results, Try.results49, go_sem]) rfl ?_
      exact ⟨rfl, Below.refl _ _⟩
end Go.Proofs.Ytnnojeggjnddpaa
