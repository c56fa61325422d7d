/- Part 8 of the walks that the proof leans on. -/
import Derived.Test.YtpmnmlhfaoajdaaGreatHt7
import Derived.Deep.OwnRows
import Derived.Test.YtpmnmlhfaoajdaaGreatHt1
import Derived.Deep.RegionHeld3
import Derived.Deep.DeepCutAuto
import Derived.Test.YtpmnmlhfaoajdaaGreatHt6
import Derived.Deep.RegionWith
/- The ends of a segment as points: the program's walk. -/
namespace Go.Proofs.YtpmnmlhfaoajdaaGreat
open Go.RowKit
theorem Blk.set12 {W : World} {vs : List Value} {v0 v1 v2 v3 v4 v5 v6 v7 v8 v9 v10 v11 : Value} {g g' : Nat} (G : Blk W g' vs) (hg : g' ≠ g) : Blk ((((((((((((W.setCell ⟨g, 0, none⟩ v0).setCell ⟨g, 1, none⟩ v1).setCell ⟨g, 2, none⟩ v2).setCell ⟨g, 3, none⟩ v3).setCell ⟨g, 4, none⟩ v4).setCell ⟨g, 5, none⟩ v5).setCell ⟨g, 6, none⟩ v6).setCell ⟨g, 7, none⟩ v7).setCell ⟨g, 8, none⟩ v8).setCell ⟨g, 9, none⟩ v9).setCell ⟨g, 10, none⟩ v10).setCell ⟨g, 11, none⟩ v11) g' vs :=
  (((((((((((G.setO hg v0).setO hg v1).setO hg v2).setO hg v3).setO hg v4).setO hg v5).setO hg v6).setO hg v7).setO hg v8).setO hg v9).setO hg v10).setO hg v11
theorem Blk.stored12 {W : World} {g : Nat} {z0 z1 z2 z3 z4 z5 z6 z7 z8 z9 z10 z11 : Value} (G : Blk W g [z0, z1, z2, z3, z4, z5, z6, z7, z8, z9, z10, z11]) (v0 v1 v2 v3 v4 v5 v6 v7 v8 v9 v10 v11 : Value) : Blk ((((((((((((W.setCell ⟨g, 0, none⟩ v0).setCell ⟨g, 1, none⟩ v1).setCell ⟨g, 2, none⟩ v2).setCell ⟨g, 3, none⟩ v3).setCell ⟨g, 4, none⟩ v4).setCell ⟨g, 5, none⟩ v5).setCell ⟨g, 6, none⟩ v6).setCell ⟨g, 7, none⟩ v7).setCell ⟨g, 8, none⟩ v8).setCell ⟨g, 9, none⟩ v9).setCell ⟨g, 10, none⟩ v10).setCell ⟨g, 11, none⟩ v11) g [v0, v1, v2, v3, v4, v5, v6, v7, v8, v9, v10, v11] :=
  (((((((((((G.setI 0 (by simp) v0).setI 1 (by simp) v1).setI 2 (by simp) v2).setI 3 (by simp) v3).setI 4 (by simp) v4).setI 5 (by simp) v5).setI 6 (by simp) v6).setI 7 (by simp) v7).setI 8 (by simp) v8).setI 9 (by simp) v9).setI 10 (by simp) v10).setI 11 (by simp) v11
theorem Below.set12 {B g : Nat} {w W : World} {v0 v1 v2 v3 v4 v5 v6 v7 v8 v9 v10 v11 : Value} (hg : B ≤ g) (h : Below B w W) : Below B w ((((((((((((W.setCell ⟨g, 0, none⟩ v0).setCell ⟨g, 1, none⟩ v1).setCell ⟨g, 2, none⟩ v2).setCell ⟨g, 3, none⟩ v3).setCell ⟨g, 4, none⟩ v4).setCell ⟨g, 5, none⟩ v5).setCell ⟨g, 6, none⟩ v6).setCell ⟨g, 7, none⟩ v7).setCell ⟨g, 8, none⟩ v8).setCell ⟨g, 9, none⟩ v9).setCell ⟨g, 10, none⟩ v10).setCell ⟨g, 11, none⟩ v11) :=
  (((((((((((h.setCell (p := ⟨g, 0, none⟩) hg _).setCell (p := ⟨g, 1, none⟩) hg _).setCell (p := ⟨g, 2, none⟩) hg _).setCell (p := ⟨g, 3, none⟩) hg _).setCell (p := ⟨g, 4, none⟩) hg _).setCell (p := ⟨g, 5, none⟩) hg _).setCell (p := ⟨g, 6, none⟩) hg _).setCell (p := ⟨g, 7, none⟩) hg _).setCell (p := ⟨g, 8, none⟩) hg _).setCell (p := ⟨g, 9, none⟩) hg _).setCell (p := ⟨g, 10, none⟩) hg _).setCell (p := ⟨g, 11, none⟩) hg _
theorem en_cells {a b c d : Int} {w W : World} (T0 : ArgsB w W [[.int .i64 a, .int .i64 b, .int .i64 c, .int .i64 d], [.int .u64 0, .int .u64 0, .int .u64 0, .int .u64 0, .int .u64 0, .int .u64 0, .int .u64 0, .int .u64 0, .int .u64 0, .int .u64 0, .int .u64 0, .int .u64 0], [.int .u64 0, .int .u64 0, .int .u64 0, .int .u64 0, .int .u64 0, .int .u64 0, .int .u64 0, .int .u64 0, .int .u64 0, .int .u64 0, .int .u64 0, .int .u64 0]]) : (fun w' => w'.cell? ⟨w.heap.size, 0, none⟩ = some (.int .i64 a) ∧ w'.cell? ⟨w.heap.size, 1, none⟩ = some (.int .i64 b) ∧ w'.cell? ⟨w.heap.size, 2, none⟩ = some (.int .i64 c) ∧ w'.cell? ⟨w.heap.size, 3, none⟩ = some (.int .i64 d)) W := ⟨(T0.b 0 rfl).c 0 rfl, (T0.b 0 rfl).c 1 rfl, (T0.b 0 rfl).c 2 rfl, (T0.b 0 rfl).c 3 rfl⟩
theorem en_cells1 {a b c d : Int} {w W : World} {v0 v1 v2 v3 v4 v5 v6 v7 v8 v9 v10 v11 : Value} (T0 : ArgsB w W [[.int .i64 a, .int .i64 b, .int .i64 c, .int .i64 d], [.int .u64 0, .int .u64 0, .int .u64 0, .int .u64 0, .int .u64 0, .int .u64 0, .int .u64 0, .int .u64 0, .int .u64 0, .int .u64 0, .int .u64 0, .int .u64 0], [.int .u64 0, .int .u64 0, .int .u64 0, .int .u64 0, .int .u64 0, .int .u64 0, .int .u64 0, .int .u64 0, .int .u64 0, .int .u64 0, .int .u64 0, .int .u64 0]]) : (fun w' => w'.cell? ⟨w.heap.size, 0, none⟩ = some (.int .i64 a) ∧ w'.cell? ⟨w.heap.size, 1, none⟩ = some (.int .i64 b) ∧ w'.cell? ⟨w.heap.size, 2, none⟩ = some (.int .i64 c) ∧ w'.cell? ⟨w.heap.size, 3, none⟩ = some (.int .i64 d)) ((((((((((((W.setCell ⟨(w.heap.size + 1), 0, none⟩ v0).setCell ⟨(w.heap.size + 1), 1, none⟩ v1).setCell ⟨(w.heap.size + 1), 2, none⟩ v2).setCell ⟨(w.heap.size + 1), 3, none⟩ v3).setCell ⟨(w.heap.size + 1), 4, none⟩ v4).setCell ⟨(w.heap.size + 1), 5, none⟩ v5).setCell ⟨(w.heap.size + 1), 6, none⟩ v6).setCell ⟨(w.heap.size + 1), 7, none⟩ v7).setCell ⟨(w.heap.size + 1), 8, none⟩ v8).setCell ⟨(w.heap.size + 1), 9, none⟩ v9).setCell ⟨(w.heap.size + 1), 10, none⟩ v10).setCell ⟨(w.heap.size + 1), 11, none⟩ v11) := by
  have h : Blk ((((((((((((W.setCell ⟨(w.heap.size + 1), 0, none⟩ v0).setCell ⟨(w.heap.size + 1), 1, none⟩ v1).setCell ⟨(w.heap.size + 1), 2, none⟩ v2).setCell ⟨(w.heap.size + 1), 3, none⟩ v3).setCell ⟨(w.heap.size + 1), 4, none⟩ v4).setCell ⟨(w.heap.size + 1), 5, none⟩ v5).setCell ⟨(w.heap.size + 1), 6, none⟩ v6).setCell ⟨(w.heap.size + 1), 7, none⟩ v7).setCell ⟨(w.heap.size + 1), 8, none⟩ v8).setCell ⟨(w.heap.size + 1), 9, none⟩ v9).setCell ⟨(w.heap.size + 1), 10, none⟩ v10).setCell ⟨(w.heap.size + 1), 11, none⟩ v11) (w.heap.size + 0) _ := (T0.b 0 rfl).set12 (by omega)
  exact ⟨h.c 0 rfl, h.c 1 rfl, h.c 2 rfl, h.c 3 rfl⟩
theorem en_cells2 {a b c d : Int} {w W : World} {v0 v1 v2 v3 v4 v5 v6 v7 v8 v9 v10 v11 : Value} (T0 : ArgsB w W [[.int .i64 a, .int .i64 b, .int .i64 c, .int .i64 d], [.int .u64 0, .int .u64 0, .int .u64 0, .int .u64 0, .int .u64 0, .int .u64 0, .int .u64 0, .int .u64 0, .int .u64 0, .int .u64 0, .int .u64 0, .int .u64 0], [.int .u64 0, .int .u64 0, .int .u64 0, .int .u64 0, .int .u64 0, .int .u64 0, .int .u64 0, .int .u64 0, .int .u64 0, .int .u64 0, .int .u64 0, .int .u64 0]]) : (fun w' => w'.cell? ⟨w.heap.size, 0, none⟩ = some (.int .i64 a) ∧ w'.cell? ⟨w.heap.size, 1, none⟩ = some (.int .i64 b) ∧ w'.cell? ⟨w.heap.size, 2, none⟩ = some (.int .i64 c) ∧ w'.cell? ⟨w.heap.size, 3, none⟩ = some (.int .i64 d)) ((((((((((((W.setCell ⟨(w.heap.size + 1 + 1), 0, none⟩ v0).setCell ⟨(w.heap.size + 1 + 1), 1, none⟩ v1).setCell ⟨(w.heap.size + 1 + 1), 2, none⟩ v2).setCell ⟨(w.heap.size + 1 + 1), 3, none⟩ v3).setCell ⟨(w.heap.size + 1 + 1), 4, none⟩ v4).setCell ⟨(w.heap.size + 1 + 1), 5, none⟩ v5).setCell ⟨(w.heap.size + 1 + 1), 6, none⟩ v6).setCell ⟨(w.heap.size + 1 + 1), 7, none⟩ v7).setCell ⟨(w.heap.size + 1 + 1), 8, none⟩ v8).setCell ⟨(w.heap.size + 1 + 1), 9, none⟩ v9).setCell ⟨(w.heap.size + 1 + 1), 10, none⟩ v10).setCell ⟨(w.heap.size + 1 + 1), 11, none⟩ v11) := by
  have h : Blk ((((((((((((W.setCell ⟨(w.heap.size + 1 + 1), 0, none⟩ v0).setCell ⟨(w.heap.size + 1 + 1), 1, none⟩ v1).setCell ⟨(w.heap.size + 1 + 1), 2, none⟩ v2).setCell ⟨(w.heap.size + 1 + 1), 3, none⟩ v3).setCell ⟨(w.heap.size + 1 + 1), 4, none⟩ v4).setCell ⟨(w.heap.size + 1 + 1), 5, none⟩ v5).setCell ⟨(w.heap.size + 1 + 1), 6, none⟩ v6).setCell ⟨(w.heap.size + 1 + 1), 7, none⟩ v7).setCell ⟨(w.heap.size + 1 + 1), 8, none⟩ v8).setCell ⟨(w.heap.size + 1 + 1), 9, none⟩ v9).setCell ⟨(w.heap.size + 1 + 1), 10, none⟩ v10).setCell ⟨(w.heap.size + 1 + 1), 11, none⟩ v11) (w.heap.size + 0) _ := (T0.b 0 rfl).set12 (by omega)
  exact ⟨h.c 0 rfl, h.c 1 rfl, h.c 2 rfl, h.c 3 rfl⟩
theorem en_cells12 {a b c d : Int} {w W : World} {u0 u1 u2 u3 u4 u5 u6 u7 u8 u9 u10 u11 v0 v1 v2 v3 v4 v5 v6 v7 v8 v9 v10 v11 : Value} (T0 : ArgsB w W [[.int .i64 a, .int .i64 b, .int .i64 c, .int .i64 d], [.int .u64 0, .int .u64 0, .int .u64 0, .int .u64 0, .int .u64 0, .int .u64 0, .int .u64 0, .int .u64 0, .int .u64 0, .int .u64 0, .int .u64 0, .int .u64 0], [.int .u64 0, .int .u64 0, .int .u64 0, .int .u64 0, .int .u64 0, .int .u64 0, .int .u64 0, .int .u64 0, .int .u64 0, .int .u64 0, .int .u64 0, .int .u64 0]]) : (fun w' => w'.cell? ⟨w.heap.size, 0, none⟩ = some (.int .i64 a) ∧ w'.cell? ⟨w.heap.size, 1, none⟩ = some (.int .i64 b) ∧ w'.cell? ⟨w.heap.size, 2, none⟩ = some (.int .i64 c) ∧ w'.cell? ⟨w.heap.size, 3, none⟩ = some (.int .i64 d)) ((((((((((((((((((((((((W.setCell ⟨(w.heap.size + 1), 0, none⟩ u0).setCell ⟨(w.heap.size + 1), 1, none⟩ u1).setCell ⟨(w.heap.size + 1), 2, none⟩ u2).setCell ⟨(w.heap.size + 1), 3, none⟩ u3).setCell ⟨(w.heap.size + 1), 4, none⟩ u4).setCell ⟨(w.heap.size + 1), 5, none⟩ u5).setCell ⟨(w.heap.size + 1), 6, none⟩ u6).setCell ⟨(w.heap.size + 1), 7, none⟩ u7).setCell ⟨(w.heap.size + 1), 8, none⟩ u8).setCell ⟨(w.heap.size + 1), 9, none⟩ u9).setCell ⟨(w.heap.size + 1), 10, none⟩ u10).setCell ⟨(w.heap.size + 1), 11, none⟩ u11).setCell ⟨(w.heap.size + 1 + 1), 0, none⟩ v0).setCell ⟨(w.heap.size + 1 + 1), 1, none⟩ v1).setCell ⟨(w.heap.size + 1 + 1), 2, none⟩ v2).setCell ⟨(w.heap.size + 1 + 1), 3, none⟩ v3).setCell ⟨(w.heap.size + 1 + 1), 4, none⟩ v4).setCell ⟨(w.heap.size + 1 + 1), 5, none⟩ v5).setCell ⟨(w.heap.size + 1 + 1), 6, none⟩ v6).setCell ⟨(w.heap.size + 1 + 1), 7, none⟩ v7).setCell ⟨(w.heap.size + 1 + 1), 8, none⟩ v8).setCell ⟨(w.heap.size + 1 + 1), 9, none⟩ v9).setCell ⟨(w.heap.size + 1 + 1), 10, none⟩ v10).setCell ⟨(w.heap.size + 1 + 1), 11, none⟩ v11) := by
  have h : Blk ((((((((((((((((((((((((W.setCell ⟨(w.heap.size + 1), 0, none⟩ u0).setCell ⟨(w.heap.size + 1), 1, none⟩ u1).setCell ⟨(w.heap.size + 1), 2, none⟩ u2).setCell ⟨(w.heap.size + 1), 3, none⟩ u3).setCell ⟨(w.heap.size + 1), 4, none⟩ u4).setCell ⟨(w.heap.size + 1), 5, none⟩ u5).setCell ⟨(w.heap.size + 1), 6, none⟩ u6).setCell ⟨(w.heap.size + 1), 7, none⟩ u7).setCell ⟨(w.heap.size + 1), 8, none⟩ u8).setCell ⟨(w.heap.size + 1), 9, none⟩ u9).setCell ⟨(w.heap.size + 1), 10, none⟩ u10).setCell ⟨(w.heap.size + 1), 11, none⟩ u11).setCell ⟨(w.heap.size + 1 + 1), 0, none⟩ v0).setCell ⟨(w.heap.size + 1 + 1), 1, none⟩ v1).setCell ⟨(w.heap.size + 1 + 1), 2, none⟩ v2).setCell ⟨(w.heap.size + 1 + 1), 3, none⟩ v3).setCell ⟨(w.heap.size + 1 + 1), 4, none⟩ v4).setCell ⟨(w.heap.size + 1 + 1), 5, none⟩ v5).setCell ⟨(w.heap.size + 1 + 1), 6, none⟩ v6).setCell ⟨(w.heap.size + 1 + 1), 7, none⟩ v7).setCell ⟨(w.heap.size + 1 + 1), 8, none⟩ v8).setCell ⟨(w.heap.size + 1 + 1), 9, none⟩ v9).setCell ⟨(w.heap.size + 1 + 1), 10, none⟩ v10).setCell ⟨(w.heap.size + 1 + 1), 11, none⟩ v11) (w.heap.size + 0) _ := ((T0.b 0 rfl).set12 (by omega)).set12 (by omega)
  exact ⟨h.c 0 rfl, h.c 1 rfl, h.c 2 rfl, h.c 3 rfl⟩
theorem en_cells21 {a b c d : Int} {w W : World} {u0 u1 u2 u3 u4 u5 u6 u7 u8 u9 u10 u11 v0 v1 v2 v3 v4 v5 v6 v7 v8 v9 v10 v11 : Value} (T0 : ArgsB w W [[.int .i64 a, .int .i64 b, .int .i64 c, .int .i64 d], [.int .u64 0, .int .u64 0, .int .u64 0, .int .u64 0, .int .u64 0, .int .u64 0, .int .u64 0, .int .u64 0, .int .u64 0, .int .u64 0, .int .u64 0, .int .u64 0], [.int .u64 0, .int .u64 0, .int .u64 0, .int .u64 0, .int .u64 0, .int .u64 0, .int .u64 0, .int .u64 0, .int .u64 0, .int .u64 0, .int .u64 0, .int .u64 0]]) : (fun w' => w'.cell? ⟨w.heap.size, 0, none⟩ = some (.int .i64 a) ∧ w'.cell? ⟨w.heap.size, 1, none⟩ = some (.int .i64 b) ∧ w'.cell? ⟨w.heap.size, 2, none⟩ = some (.int .i64 c) ∧ w'.cell? ⟨w.heap.size, 3, none⟩ = some (.int .i64 d)) ((((((((((((((((((((((((W.setCell ⟨(w.heap.size + 1 + 1), 0, none⟩ u0).setCell ⟨(w.heap.size + 1 + 1), 1, none⟩ u1).setCell ⟨(w.heap.size + 1 + 1), 2, none⟩ u2).setCell ⟨(w.heap.size + 1 + 1), 3, none⟩ u3).setCell ⟨(w.heap.size + 1 + 1), 4, none⟩ u4).setCell ⟨(w.heap.size + 1 + 1), 5, none⟩ u5).setCell ⟨(w.heap.size + 1 + 1), 6, none⟩ u6).setCell ⟨(w.heap.size + 1 + 1), 7, none⟩ u7).setCell ⟨(w.heap.size + 1 + 1), 8, none⟩ u8).setCell ⟨(w.heap.size + 1 + 1), 9, none⟩ u9).setCell ⟨(w.heap.size + 1 + 1), 10, none⟩ u10).setCell ⟨(w.heap.size + 1 + 1), 11, none⟩ u11).setCell ⟨(w.heap.size + 1), 0, none⟩ v0).setCell ⟨(w.heap.size + 1), 1, none⟩ v1).setCell ⟨(w.heap.size + 1), 2, none⟩ v2).setCell ⟨(w.heap.size + 1), 3, none⟩ v3).setCell ⟨(w.heap.size + 1), 4, none⟩ v4).setCell ⟨(w.heap.size + 1), 5, none⟩ v5).setCell ⟨(w.heap.size + 1), 6, none⟩ v6).setCell ⟨(w.heap.size + 1), 7, none⟩ v7).setCell ⟨(w.heap.size + 1), 8, none⟩ v8).setCell ⟨(w.heap.size + 1), 9, none⟩ v9).setCell ⟨(w.heap.size + 1), 10, none⟩ v10).setCell ⟨(w.heap.size + 1), 11, none⟩ v11) := by
  have h : Blk ((((((((((((((((((((((((W.setCell ⟨(w.heap.size + 1 + 1), 0, none⟩ u0).setCell ⟨(w.heap.size + 1 + 1), 1, none⟩ u1).setCell ⟨(w.heap.size + 1 + 1), 2, none⟩ u2).setCell ⟨(w.heap.size + 1 + 1), 3, none⟩ u3).setCell ⟨(w.heap.size + 1 + 1), 4, none⟩ u4).setCell ⟨(w.heap.size + 1 + 1), 5, none⟩ u5).setCell ⟨(w.heap.size + 1 + 1), 6, none⟩ u6).setCell ⟨(w.heap.size + 1 + 1), 7, none⟩ u7).setCell ⟨(w.heap.size + 1 + 1), 8, none⟩ u8).setCell ⟨(w.heap.size + 1 + 1), 9, none⟩ u9).setCell ⟨(w.heap.size + 1 + 1), 10, none⟩ u10).setCell ⟨(w.heap.size + 1 + 1), 11, none⟩ u11).setCell ⟨(w.heap.size + 1), 0, none⟩ v0).setCell ⟨(w.heap.size + 1), 1, none⟩ v1).setCell ⟨(w.heap.size + 1), 2, none⟩ v2).setCell ⟨(w.heap.size + 1), 3, none⟩ v3).setCell ⟨(w.heap.size + 1), 4, none⟩ v4).setCell ⟨(w.heap.size + 1), 5, none⟩ v5).setCell ⟨(w.heap.size + 1), 6, none⟩ v6).setCell ⟨(w.heap.size + 1), 7, none⟩ v7).setCell ⟨(w.heap.size + 1), 8, none⟩ v8).setCell ⟨(w.heap.size + 1), 9, none⟩ v9).setCell ⟨(w.heap.size + 1), 10, none⟩ v10).setCell ⟨(w.heap.size + 1), 11, none⟩ v11) (w.heap.size + 0) _ := ((T0.b 0 rfl).set12 (by omega)).set12 (by omega)
  exact ⟨h.c 0 rfl, h.c 1 rfl, h.c 2 rfl, h.c 3 rfl⟩
set_option maxRecDepth 100000 in
set_option maxHeartbeats 4000000 in
theorem ends_det (a b c d : Int) (ha0 : -9223372036854775808 ≤ a) (ha1 : a ≤ 9223372036854775807) (hb0 : -9223372036854775808 ≤ b) (hb1 : b ≤ 9223372036854775807) (hc0 : -9223372036854775808 ≤ c) (hc1 : c ≤ 9223372036854775807) (hd0 : -9223372036854775808 ≤ d) (hd1 : d ≤ 9223372036854775807) (w : World) : Calls Tryz.prog 61 #[Sg a b c d] w (VP (.tuple #[PV a b 1, PV c d 1]) w) := by
  have T0 : ArgsB w (((w.alloc (.cells #[.int .i64 a, .int .i64 b, .int .i64 c, .int .i64 d] 63)).alloc (.cells #[.int .u64 0, .int .u64 0, .int .u64 0, .int .u64 0, .int .u64 0, .int .u64 0, .int .u64 0, .int .u64 0, .int .u64 0, .int .u64 0, .int .u64 0, .int .u64 0] 35)).alloc (.cells #[.int .u64 0, .int .u64 0, .int .u64 0, .int .u64 0, .int .u64 0, .int .u64 0, .int .u64 0, .int .u64 0, .int .u64 0, .int .u64 0, .int .u64 0, .int .u64 0] 35)) [[.int .i64 a, .int .i64 b, .int .i64 c, .int .i64 d], [.int .u64 0, .int .u64 0, .int .u64 0, .int .u64 0, .int .u64 0, .int .u64 0, .int .u64 0, .int .u64 0, .int .u64 0, .int .u64 0, .int .u64 0, .int .u64 0], [.int .u64 0, .int .u64 0, .int .u64 0, .int .u64 0, .int .u64 0, .int .u64 0, .int .u64 0, .int .u64 0, .int .u64 0, .int .u64 0, .int .u64 0, .int .u64 0]] := ar3 _ _ _ _ _ _ w
  have C1 := fun w => implPointOf_any a b ha0 ha1 hb0 hb1 w
  have C2 := fun w => implPointOf_any c d hc0 hc1 hd0 hd1 w
  clear ha0 ha1 hb0 hb1 hc0 hc1 hd0 hd1
  have tok1 : True := trivial
  go_enter Tryz.func61, Tryz.ntmps61
  go_upto_region 1 with fail
  generalize (((w.alloc (.cells #[.int .i64 a, .int .i64 b, .int .i64 c, .int .i64 d] 63)).alloc (.cells #[.int .u64 0, .int .u64 0, .int .u64 0, .int .u64 0, .int .u64 0, .int .u64 0, .int .u64 0, .int .u64 0, .int .u64 0, .int .u64 0, .int .u64 0, .int .u64 0] 35)).alloc (.cells #[.int .u64 0, .int .u64 0, .int .u64 0, .int .u64 0, .int .u64 0, .int .u64 0, .int .u64 0, .int .u64 0, .int .u64 0, .int .u64 0, .int .u64 0, .int .u64 0] 35)) = W at *
  go_region_held3 (fun w' => w'.cell? ⟨w.heap.size, 0, none⟩ = some (.int .i64 a) ∧ w'.cell? ⟨w.heap.size, 1, none⟩ = some (.int .i64 b) ∧ w'.cell? ⟨w.heap.size, 2, none⟩ = some (.int .i64 c) ∧ w'.cell? ⟨w.heap.size, 3, none⟩ = some (.int .i64 d)) (first | (with_reducible exact en_cells T0) | (with_reducible exact en_cells T0.drew) | (with_reducible exact en_cells1 T0) | (with_reducible exact en_cells2 T0) | (with_reducible exact en_cells12 T0) | (with_reducible exact en_cells21 T0))
    (first
      | (go_at_call 96; have _t := tok1; refine (C1 _).mono ?_; rintro e v1 ⟨rfl, hB⟩; (first | (have T1 := T0.step hB) | (have T1 := T0.drew.step hB)); clear T0; have T0 := T1; clear T1; clear hB; clear tok1 _t)
      | (go_at_call 96; refine (C2 _).mono ?_; rintro e v2 ⟨rfl, hB⟩; (first | (have T1 := T0.step hB) | (have T1 := T0.drew.step hB)); clear T0; have T0 := T1; clear T1; clear hB; have rc0 := (T0.b 1 rfl).c 0 rfl; have rf0 := (T0.b 1 rfl).f 0 rfl; have rc1 := (T0.b 1 rfl).c 1 rfl; have rf1 := (T0.b 1 rfl).f 1 rfl; have rc2 := (T0.b 1 rfl).c 2 rfl; have rf2 := (T0.b 1 rfl).f 2 rfl; have rc3 := (T0.b 1 rfl).c 3 rfl; have rf3 := (T0.b 1 rfl).f 3 rfl; have rc4 := (T0.b 1 rfl).c 4 rfl; have rf4 := (T0.b 1 rfl).f 4 rfl; have rc5 := (T0.b 1 rfl).c 5 rfl; have rf5 := (T0.b 1 rfl).f 5 rfl; have rc6 := (T0.b 1 rfl).c 6 rfl; have rf6 := (T0.b 1 rfl).f 6 rfl; have rc7 := (T0.b 1 rfl).c 7 rfl; have rf7 := (T0.b 1 rfl).f 7 rfl; have rc8 := (T0.b 1 rfl).c 8 rfl; have rf8 := (T0.b 1 rfl).f 8 rfl; have rc9 := (T0.b 1 rfl).c 9 rfl; have rf9 := (T0.b 1 rfl).f 9 rfl; have rc10 := (T0.b 1 rfl).c 10 rfl; have rf10 := (T0.b 1 rfl).f 10 rfl; have rc11 := (T0.b 1 rfl).c 11 rfl; have rf11 := (T0.b 1 rfl).f 11 rfl; have sc0 := (T0.b 2 rfl).c 0 rfl; have sf0 := (T0.b 2 rfl).f 0 rfl; have sc1 := (T0.b 2 rfl).c 1 rfl; have sf1 := (T0.b 2 rfl).f 1 rfl; have sc2 := (T0.b 2 rfl).c 2 rfl; have sf2 := (T0.b 2 rfl).f 2 rfl; have sc3 := (T0.b 2 rfl).c 3 rfl; have sf3 := (T0.b 2 rfl).f 3 rfl; have sc4 := (T0.b 2 rfl).c 4 rfl; have sf4 := (T0.b 2 rfl).f 4 rfl; have sc5 := (T0.b 2 rfl).c 5 rfl; have sf5 := (T0.b 2 rfl).f 5 rfl; have sc6 := (T0.b 2 rfl).c 6 rfl; have sf6 := (T0.b 2 rfl).f 6 rfl; have sc7 := (T0.b 2 rfl).c 7 rfl; have sf7 := (T0.b 2 rfl).f 7 rfl; have sc8 := (T0.b 2 rfl).c 8 rfl; have sf8 := (T0.b 2 rfl).f 8 rfl; have sc9 := (T0.b 2 rfl).c 9 rfl; have sf9 := (T0.b 2 rfl).f 9 rfl; have sc10 := (T0.b 2 rfl).c 10 rfl; have sf10 := (T0.b 2 rfl).f 10 rfl; have sc11 := (T0.b 2 rfl).c 11 rfl; have sf11 := (T0.b 2 rfl).f 11 rfl; have rl := (T0.b 1 rfl).lt; have sl := (T0.b 2 rfl).lt))
  all_goals have HB := T0.below
  all_goals have X1 : Blk _ (w.heap.size + 1) _ := T0.b 1 rfl
  all_goals have X2 : Blk _ (w.heap.size + 1 + 1) _ := T0.b 2 rfl
  go_wp2
  have F1 : Blk ((((((((((((((((((((((((v2.setCell ⟨(w.heap.size + 1), 0, none⟩ (.int .u64 (ww3 a))).setCell ⟨(w.heap.size + 1), 1, none⟩ (.int .u64 (ww2 a))).setCell ⟨(w.heap.size + 1), 2, none⟩ (.int .u64 (ww1 a))).setCell ⟨(w.heap.size + 1), 3, none⟩ (.int .u64 (ww0 a))).setCell ⟨(w.heap.size + 1), 4, none⟩ (.int .u64 (ww3 b))).setCell ⟨(w.heap.size + 1), 5, none⟩ (.int .u64 (ww2 b))).setCell ⟨(w.heap.size + 1), 6, none⟩ (.int .u64 (ww1 b))).setCell ⟨(w.heap.size + 1), 7, none⟩ (.int .u64 (ww0 b))).setCell ⟨(w.heap.size + 1), 8, none⟩ (.int .u64 (ww3 1))).setCell ⟨(w.heap.size + 1), 9, none⟩ (.int .u64 (ww2 1))).setCell ⟨(w.heap.size + 1), 10, none⟩ (.int .u64 (ww1 1))).setCell ⟨(w.heap.size + 1), 11, none⟩ (.int .u64 (ww0 1))).setCell ⟨(w.heap.size + 1 + 1), 0, none⟩ (.int .u64 (ww3 c))).setCell ⟨(w.heap.size + 1 + 1), 1, none⟩ (.int .u64 (ww2 c))).setCell ⟨(w.heap.size + 1 + 1), 2, none⟩ (.int .u64 (ww1 c))).setCell ⟨(w.heap.size + 1 + 1), 3, none⟩ (.int .u64 (ww0 c))).setCell ⟨(w.heap.size + 1 + 1), 4, none⟩ (.int .u64 (ww3 d))).setCell ⟨(w.heap.size + 1 + 1), 5, none⟩ (.int .u64 (ww2 d))).setCell ⟨(w.heap.size + 1 + 1), 6, none⟩ (.int .u64 (ww1 d))).setCell ⟨(w.heap.size + 1 + 1), 7, none⟩ (.int .u64 (ww0 d))).setCell ⟨(w.heap.size + 1 + 1), 8, none⟩ (.int .u64 (ww3 1))).setCell ⟨(w.heap.size + 1 + 1), 9, none⟩ (.int .u64 (ww2 1))).setCell ⟨(w.heap.size + 1 + 1), 10, none⟩ (.int .u64 (ww1 1))).setCell ⟨(w.heap.size + 1 + 1), 11, none⟩ (.int .u64 (ww0 1))) (w.heap.size + 1) [.int .u64 (ww3 a), .int .u64 (ww2 a), .int .u64 (ww1 a), .int .u64 (ww0 a), .int .u64 (ww3 b), .int .u64 (ww2 b), .int .u64 (ww1 b), .int .u64 (ww0 b), .int .u64 (ww3 1), .int .u64 (ww2 1), .int .u64 (ww1 1), .int .u64 (ww0 1)] := (X1.stored12 (.int .u64 (ww3 a)) (.int .u64 (ww2 a)) (.int .u64 (ww1 a)) (.int .u64 (ww0 a)) (.int .u64 (ww3 b)) (.int .u64 (ww2 b)) (.int .u64 (ww1 b)) (.int .u64 (ww0 b)) (.int .u64 (ww3 1)) (.int .u64 (ww2 1)) (.int .u64 (ww1 1)) (.int .u64 (ww0 1))).set12 (by omega)
  have F2 : Blk ((((((((((((((((((((((((v2.setCell ⟨(w.heap.size + 1), 0, none⟩ (.int .u64 (ww3 a))).setCell ⟨(w.heap.size + 1), 1, none⟩ (.int .u64 (ww2 a))).setCell ⟨(w.heap.size + 1), 2, none⟩ (.int .u64 (ww1 a))).setCell ⟨(w.heap.size + 1), 3, none⟩ (.int .u64 (ww0 a))).setCell ⟨(w.heap.size + 1), 4, none⟩ (.int .u64 (ww3 b))).setCell ⟨(w.heap.size + 1), 5, none⟩ (.int .u64 (ww2 b))).setCell ⟨(w.heap.size + 1), 6, none⟩ (.int .u64 (ww1 b))).setCell ⟨(w.heap.size + 1), 7, none⟩ (.int .u64 (ww0 b))).setCell ⟨(w.heap.size + 1), 8, none⟩ (.int .u64 (ww3 1))).setCell ⟨(w.heap.size + 1), 9, none⟩ (.int .u64 (ww2 1))).setCell ⟨(w.heap.size + 1), 10, none⟩ (.int .u64 (ww1 1))).setCell ⟨(w.heap.size + 1), 11, none⟩ (.int .u64 (ww0 1))).setCell ⟨(w.heap.size + 1 + 1), 0, none⟩ (.int .u64 (ww3 c))).setCell ⟨(w.heap.size + 1 + 1), 1, none⟩ (.int .u64 (ww2 c))).setCell ⟨(w.heap.size + 1 + 1), 2, none⟩ (.int .u64 (ww1 c))).setCell ⟨(w.heap.size + 1 + 1), 3, none⟩ (.int .u64 (ww0 c))).setCell ⟨(w.heap.size + 1 + 1), 4, none⟩ (.int .u64 (ww3 d))).setCell ⟨(w.heap.size + 1 + 1), 5, none⟩ (.int .u64 (ww2 d))).setCell ⟨(w.heap.size + 1 + 1), 6, none⟩ (.int .u64 (ww1 d))).setCell ⟨(w.heap.size + 1 + 1), 7, none⟩ (.int .u64 (ww0 d))).setCell ⟨(w.heap.size + 1 + 1), 8, none⟩ (.int .u64 (ww3 1))).setCell ⟨(w.heap.size + 1 + 1), 9, none⟩ (.int .u64 (ww2 1))).setCell ⟨(w.heap.size + 1 + 1), 10, none⟩ (.int .u64 (ww1 1))).setCell ⟨(w.heap.size + 1 + 1), 11, none⟩ (.int .u64 (ww0 1))) (w.heap.size + 1 + 1) [.int .u64 (ww3 c), .int .u64 (ww2 c), .int .u64 (ww1 c), .int .u64 (ww0 c), .int .u64 (ww3 d), .int .u64 (ww2 d), .int .u64 (ww1 d), .int .u64 (ww0 d), .int .u64 (ww3 1), .int .u64 (ww2 1), .int .u64 (ww1 1), .int .u64 (ww0 1)] := (X2.set12 (by omega)).stored12 (.int .u64 (ww3 c)) (.int .u64 (ww2 c)) (.int .u64 (ww1 c)) (.int .u64 (ww0 c)) (.int .u64 (ww3 d)) (.int .u64 (ww2 d)) (.int .u64 (ww1 d)) (.int .u64 (ww0 d)) (.int .u64 (ww3 1)) (.int .u64 (ww2 1)) (.int .u64 (ww1 1)) (.int .u64 (ww0 1))
  have HBF : Below w.heap.size w ((((((((((((((((((((((((v2.setCell ⟨(w.heap.size + 1), 0, none⟩ (.int .u64 (ww3 a))).setCell ⟨(w.heap.size + 1), 1, none⟩ (.int .u64 (ww2 a))).setCell ⟨(w.heap.size + 1), 2, none⟩ (.int .u64 (ww1 a))).setCell ⟨(w.heap.size + 1), 3, none⟩ (.int .u64 (ww0 a))).setCell ⟨(w.heap.size + 1), 4, none⟩ (.int .u64 (ww3 b))).setCell ⟨(w.heap.size + 1), 5, none⟩ (.int .u64 (ww2 b))).setCell ⟨(w.heap.size + 1), 6, none⟩ (.int .u64 (ww1 b))).setCell ⟨(w.heap.size + 1), 7, none⟩ (.int .u64 (ww0 b))).setCell ⟨(w.heap.size + 1), 8, none⟩ (.int .u64 (ww3 1))).setCell ⟨(w.heap.size + 1), 9, none⟩ (.int .u64 (ww2 1))).setCell ⟨(w.heap.size + 1), 10, none⟩ (.int .u64 (ww1 1))).setCell ⟨(w.heap.size + 1), 11, none⟩ (.int .u64 (ww0 1))).setCell ⟨(w.heap.size + 1 + 1), 0, none⟩ (.int .u64 (ww3 c))).setCell ⟨(w.heap.size + 1 + 1), 1, none⟩ (.int .u64 (ww2 c))).setCell ⟨(w.heap.size + 1 + 1), 2, none⟩ (.int .u64 (ww1 c))).setCell ⟨(w.heap.size + 1 + 1), 3, none⟩ (.int .u64 (ww0 c))).setCell ⟨(w.heap.size + 1 + 1), 4, none⟩ (.int .u64 (ww3 d))).setCell ⟨(w.heap.size + 1 + 1), 5, none⟩ (.int .u64 (ww2 d))).setCell ⟨(w.heap.size + 1 + 1), 6, none⟩ (.int .u64 (ww1 d))).setCell ⟨(w.heap.size + 1 + 1), 7, none⟩ (.int .u64 (ww0 d))).setCell ⟨(w.heap.size + 1 + 1), 8, none⟩ (.int .u64 (ww3 1))).setCell ⟨(w.heap.size + 1 + 1), 9, none⟩ (.int .u64 (ww2 1))).setCell ⟨(w.heap.size + 1 + 1), 10, none⟩ (.int .u64 (ww1 1))).setCell ⟨(w.heap.size + 1 + 1), 11, none⟩ (.int .u64 (ww0 1))) := Below.set12 (by omega) (Below.set12 (by omega) HB)
  generalize ((((((((((((((((((((((((v2.setCell ⟨(w.heap.size + 1), 0, none⟩ (.int .u64 (ww3 a))).setCell ⟨(w.heap.size + 1), 1, none⟩ (.int .u64 (ww2 a))).setCell ⟨(w.heap.size + 1), 2, none⟩ (.int .u64 (ww1 a))).setCell ⟨(w.heap.size + 1), 3, none⟩ (.int .u64 (ww0 a))).setCell ⟨(w.heap.size + 1), 4, none⟩ (.int .u64 (ww3 b))).setCell ⟨(w.heap.size + 1), 5, none⟩ (.int .u64 (ww2 b))).setCell ⟨(w.heap.size + 1), 6, none⟩ (.int .u64 (ww1 b))).setCell ⟨(w.heap.size + 1), 7, none⟩ (.int .u64 (ww0 b))).setCell ⟨(w.heap.size + 1), 8, none⟩ (.int .u64 (ww3 1))).setCell ⟨(w.heap.size + 1), 9, none⟩ (.int .u64 (ww2 1))).setCell ⟨(w.heap.size + 1), 10, none⟩ (.int .u64 (ww1 1))).setCell ⟨(w.heap.size + 1), 11, none⟩ (.int .u64 (ww0 1))).setCell ⟨(w.heap.size + 1 + 1), 0, none⟩ (.int .u64 (ww3 c))).setCell ⟨(w.heap.size + 1 + 1), 1, none⟩ (.int .u64 (ww2 c))).setCell ⟨(w.heap.size + 1 + 1), 2, none⟩ (.int .u64 (ww1 c))).setCell ⟨(w.heap.size + 1 + 1), 3, none⟩ (.int .u64 (ww0 c))).setCell ⟨(w.heap.size + 1 + 1), 4, none⟩ (.int .u64 (ww3 d))).setCell ⟨(w.heap.size + 1 + 1), 5, none⟩ (.int .u64 (ww2 d))).setCell ⟨(w.heap.size + 1 + 1), 6, none⟩ (.int .u64 (ww1 d))).setCell ⟨(w.heap.size + 1 + 1), 7, none⟩ (.int .u64 (ww0 d))).setCell ⟨(w.heap.size + 1 + 1), 8, none⟩ (.int .u64 (ww3 1))).setCell ⟨(w.heap.size + 1 + 1), 9, none⟩ (.int .u64 (ww2 1))).setCell ⟨(w.heap.size + 1 + 1), 10, none⟩ (.int .u64 (ww1 1))).setCell ⟨(w.heap.size + 1 + 1), 11, none⟩ (.int .u64 (ww0 1))) = WF at *
  have m0 := F1.c 0 rfl; have n0 := F2.c 0 rfl; have m1 := F1.c 1 rfl; have n1 := F2.c 1 rfl; have m2 := F1.c 2 rfl; have n2 := F2.c 2 rfl; have m3 := F1.c 3 rfl; have n3 := F2.c 3 rfl; have m4 := F1.c 4 rfl; have n4 := F2.c 4 rfl; have m5 := F1.c 5 rfl; have n5 := F2.c 5 rfl; have m6 := F1.c 6 rfl; have n6 := F2.c 6 rfl; have m7 := F1.c 7 rfl; have n7 := F2.c 7 rfl; have m8 := F1.c 8 rfl; have n8 := F2.c 8 rfl; have m9 := F1.c 9 rfl; have n9 := F2.c 9 rfl; have m10 := F1.c 10 rfl; have n10 := F2.c 10 rfl; have m11 := F1.c 11 rfl; have n11 := F2.c 11 rfl
  refine bodyPost_ret (v := .tuple #[PV a b 1, PV c d 1]) (by simp [results, Tryz.results61, go_sem, m0, n0, m1, n1, m2, n2, m3, n3, m4, n4, m5, n5, m6, n6, m7, n7, m8, n8, m9, n9, m10, n10, m11, n11]) rfl ?_
  exact ⟨rfl, HBF⟩
end Go.Proofs.YtpmnmlhfaoajdaaGreat

/- Rows of segments: how they lie, and the walks over them. -/
namespace Go.Proofs.YtpmnmlhfaoajdaaGreat
open Go.RowKit
/-- n segments lie behind a slice's address, their numbers by x. -/
def SegIn (w : World) (ao : Option Addr) (n : Nat) (x : Nat → Int) : Prop :=
  ∀ i, i < n → ∃ A off, ao = some ⟨A, off, none⟩ ∧ A < w.heap.size ∧ ∀ j, j < 4 → w.cell? ⟨A, off + i * 4 + j, none⟩ = some (.int .i64 (x (i * 4 + j)))
theorem SegIn.step {w w' : World} {ao : Option Addr} {n : Nat} {x : Nat → Int} (h : SegIn w ao n x) (hB : Below w.heap.size w w') : SegIn w' ao n x := fun i hi => by
  obtain ⟨A, off, e, hA, hc⟩ := h i hi
  exact ⟨A, off, e, Nat.lt_of_lt_of_le hA hB.size, fun j hj => (hB.cell (p := ⟨A, off + i * 4 + j, none⟩) hA).trans (hc j hj)⟩
theorem SegIn.drew {w : World} {ao : Option Addr} {n : Nat} {x : Nat → Int} (h : SegIn w ao n x) : SegIn w.drew ao n x := h
theorem segIn_row {w : World} {g n : Nat} {T : TypeId} {x : Nat → Int} (h : w.rowIs g T (n * 4) (fun i => .int .i64 (x i))) : SegIn w (some ⟨g, 0, none⟩) n x := fun i hi =>
  ⟨g, 0, rfl, h.lt, fun j hj => by rw [Nat.zero_add]; exact h.cell (by omega)⟩
/-- What is at fault in a row of segments. -/
def sgI (n : Nat) (x : Nat → Int) : Int := if 40 < n then 1 else if ∀ i, i < n → segOk (x (i * 4)) (x (i * 4 + 1)) (x (i * 4 + 2)) (x (i * 4 + 3)) = true then 0 else 2
set_option maxRecDepth 100000 in
set_option maxHeartbeats 2000000 in
theorem specSegsFault_any (ao : Option Addr) (n cap : Nat) (x : Nat → Int) (w : World) (hS : SegIn w ao n x) : Calls Tryz.prog 48 #[.slice ao n cap] w (VP (.int .i64 (sgI n x)) w) := by
  by_cases hn : 40 < n
  · have HO : Hid (sgI n x = 1) := by show _ = _; unfold sgI; rw [if_pos hn]
    go_enter Tryz.func48, Tryz.ntmps48
    have hn' : (40 : Int) < n := by omega
    clear hS
    go_wp2
    go_ret
    exact ⟨by rw [HO.out]; rfl, Below.refl _ _⟩
  · go_enter Tryz.func48, Tryz.ntmps48
    have hn' : (n : Int) ≤ 40 := by omega
    have HS : Hid (SegIn w ao n x) := hS
    clear hS
    go_wp2_with fail
    go_loopw [3] (fun i wr => ∃ c : Nat, c ≤ n ∧ i = .int .i64 c ∧ (∀ j, j < c → segOk (x (j * 4)) (x (j * 4 + 1)) (x (j * 4 + 2)) (x (j * 4 + 3)) = true) ∧ Below w.heap.size w wr) (fun i _ => n - (intOf i).toNat)
    case atStart => exact ⟨0, by omega, rfl, fun j hj => by omega, Below.refl _ _⟩
    case round =>
      obtain ⟨c, hc, rfl, hall, HB⟩ := hrel
      have HA : Hid (∀ j, j < c → segOk (x (j * 4)) (x (j * 4 + 1)) (x (j * 4 + 2)) (x (j * 4 + 3)) = true) := hall
      clear hall
      by_cases hcn : c < n
      · obtain ⟨A, off, rfl, hA, hcell⟩ := HS.out.step HB c hcn
        have q0 := hcell 0 (by omega); have q1 := hcell 1 (by omega); have q2 := hcell 2 (by omega); have q3 := hcell 3 (by omega)
        simp only [Nat.add_zero] at q0
        have hcI : (c : Int) < n := by omega
        have SO := fun w => specSegOk_any (x (c * 4)) (x (c * 4 + 1)) (x (c * 4 + 2)) (x (c * 4 + 3)) _ rfl w
        clear hcell
        go_wp2_with fail
        refine (SO _).mono ?_
        rintro e w1 ⟨rfl, hB⟩
        
        replace HB := HB.trans (hB.mono HB.size)
        clear hB q0 q1 q2 q3 SO hA
        by_cases hk : segOk (x (c * 4)) (x (c * 4 + 1)) (x (c * 4 + 2)) (x (c * 4 + 3)) = true
        · rw [hk]
          have HK : Hid (segOk (x (c * 4)) (x (c * 4 + 1)) (x (c * 4 + 2)) (x (c * 4 + 3)) = true) := hk
          clear hk
          go_wp2
          go_roundw
          case rel => exact ⟨c + 1, by omega, by go_num, fun j hj => by
            rcases Nat.lt_or_ge j c with h | h
            · exact HA.out j h
            · obtain rfl : j = c := by omega
              exact HK.out, HB⟩
          case measure => simp [intOf]; omega
        · have HO : Hid (sgI n x = 2) := by show _ = _; unfold sgI; rw [if_neg hn, if_neg (fun h => hk (h c hcn))]
          rw [Bool.eq_false_iff.2 hk]
          clear hk
          go_wp2
          go_ret
          exact ⟨by rw [HO.out]; rfl, HB⟩
      · obtain rfl : c = n := by omega
        have HO : Hid (sgI c x = 0) := by show _ = _; unfold sgI; rw [if_neg hn, if_pos HA.out]
        clear HA HS
        go_wp2
        go_ret
        exact ⟨by rw [HO.out]; rfl, HB⟩
set_option maxRecDepth 100000 in
set_option maxHeartbeats 2000000 in
theorem implSegsFault_any (ao : Option Addr) (n cap : Nat) (x : Nat → Int) (w : World) (hS : SegIn w ao n x) : Calls Tryz.prog 28 #[.slice ao n cap] w (VP (.int .i64 (sgI n x)) w) := by
  by_cases hn : 40 < n
  · have HO : Hid (sgI n x = 1) := by show _ = _; unfold sgI; rw [if_pos hn]
    go_enter Tryz.func28, Tryz.ntmps28
    have hn' : (40 : Int) < n := by omega
    clear hS
    go_wp2
    go_ret
    exact ⟨by rw [HO.out]; rfl, Below.refl _ _⟩
  · go_enter Tryz.func28, Tryz.ntmps28
    have hn' : (n : Int) ≤ 40 := by omega
    have HS : Hid (SegIn w ao n x) := hS
    clear hS
    go_wp2_with fail
    go_loopw [10] (fun i wr => ∃ c : Nat, c ≤ n ∧ i = .int .i64 c ∧ (∀ j, j < c → segOk (x (j * 4)) (x (j * 4 + 1)) (x (j * 4 + 2)) (x (j * 4 + 3)) = true) ∧ Below w.heap.size w wr) (fun i _ => n - (intOf i).toNat)
    case atStart => exact ⟨0, by omega, rfl, fun j hj => by omega, Below.refl _ _⟩
    case round =>
      obtain ⟨c, hc, rfl, hall, HB⟩ := hrel
      have HA : Hid (∀ j, j < c → segOk (x (j * 4)) (x (j * 4 + 1)) (x (j * 4 + 2)) (x (j * 4 + 3)) = true) := hall
      clear hall
      by_cases hcn : c < n
      · obtain ⟨A, off, rfl, hA, hcell⟩ := HS.out.step HB c hcn
        have q0 := hcell 0 (by omega); have q1 := hcell 1 (by omega); have q2 := hcell 2 (by omega); have q3 := hcell 3 (by omega)
        simp only [Nat.add_zero] at q0
        have hcI : (c : Int) < n := by omega
        have SO := fun w => implSegOk_any (x (c * 4)) (x (c * 4 + 1)) (x (c * 4 + 2)) (x (c * 4 + 3)) _ rfl w
        clear hcell
        go_wp2_with fail
        refine (SO _).mono ?_
        rintro e w1 ⟨rfl, hB⟩
        
        replace HB := (HB.alloc HB.size _).trans (hB.mono (HB.alloc HB.size _).size)
        clear hB q0 q1 q2 q3 SO hA
        by_cases hk : segOk (x (c * 4)) (x (c * 4 + 1)) (x (c * 4 + 2)) (x (c * 4 + 3)) = true
        · rw [hk]
          have HK : Hid (segOk (x (c * 4)) (x (c * 4 + 1)) (x (c * 4 + 2)) (x (c * 4 + 3)) = true) := hk
          clear hk
          go_wp2
          go_roundw
          case rel => exact ⟨c + 1, by omega, by go_num, fun j hj => by
            rcases Nat.lt_or_ge j c with h | h
            · exact HA.out j h
            · obtain rfl : j = c := by omega
              exact HK.out, HB⟩
          case measure => simp [intOf]; omega
        · have HO : Hid (sgI n x = 2) := by show _ = _; unfold sgI; rw [if_neg hn, if_neg (fun h => hk (h c hcn))]
          rw [Bool.eq_false_iff.2 hk]
          clear hk
          go_wp2
          go_ret
          exact ⟨by rw [HO.out]; rfl, HB⟩
      · obtain rfl : c = n := by omega
        have HO : Hid (sgI c x = 0) := by show _ = _; unfold sgI; rw [if_neg hn, if_pos HA.out]
        clear HA HS
        go_wp2
        go_ret
        exact ⟨by rw [HO.out]; rfl, HB⟩
end Go.Proofs.YtpmnmlhfaoajdaaGreat

/- Rows of segments: copied and held against one another; the law of what is at fault in them. -/
namespace Go.Proofs.YtpmnmlhfaoajdaaGreat
open Go.RowKit
theorem eqSpot_same (x y : Int) (w : World) : Calls Tryz.prog 65 #[Sp x y, Sp x y] w (BoolP true w) := by
  go_enter Tryz.func65, Tryz.ntmps65
  go_wp2
  go_ret
  exact ⟨rfl, ((Below.refl _ _).alloc (Nat.le_refl _) _).alloc (by simp) _⟩
set_option maxRecDepth 100000 in
theorem eqSeg_same (a b c d : Int) (w : World) : Calls Tryz.prog 31 #[Sg a b c d, Sg a b c d] w (BoolP true w) := by
  have B0 := (Blk.new w [.int .i64 a, .int .i64 b, .int .i64 c, .int .i64 d] 63 rfl).alloc (.cells #[.int .i64 a, .int .i64 b, .int .i64 c, .int .i64 d] 63)
  have B1 := Blk.new (w.alloc (.cells #[.int .i64 a, .int .i64 b, .int .i64 c, .int .i64 d] 63)) [.int .i64 a, .int .i64 b, .int .i64 c, .int .i64 d] 63 (g := w.heap.size + 1) (by simp)
  have HB0 := ((Below.refl _ w).alloc (Nat.le_refl _) (.cells #[.int .i64 a, .int .i64 b, .int .i64 c, .int .i64 d] 63)).alloc (by simp) (.cells #[.int .i64 a, .int .i64 b, .int .i64 c, .int .i64 d] 63)
  go_enter Tryz.func31, Tryz.ntmps31
  go_wp2_with fail
  refine (eqSpot_same _ _ _).mono ?_
  rintro e w1 ⟨rfl, hB⟩
  replace B0 := B0.step hB; replace B1 := B1.step hB
  have HB : Below w.heap.size w w1 := HB0.trans (hB.mono HB0.size)
  clear hB HB0
  have p2 := B0.c 2 rfl; have p3 := B0.c 3 rfl; have q2 := B1.c 2 rfl; have q3 := B1.c 3 rfl
  go_wp2_with fail
  refine (eqSpot_same _ _ _).mono ?_
  rintro e w2 ⟨rfl, hB⟩
  have HB2 : Below w.heap.size w w2 := HB.trans (hB.mono HB.size)
  clear hB HB
  go_wp2
  go_ret
  exact ⟨rfl, HB2⟩
theorem Tryz.infoSeg : (Tryz.prog.info? 63).map (fun i => (i.zero, i.size, i.bytes)) = some (some (.agg #[.int .i64 0, .int .i64 0, .int .i64 0, .int .i64 0]), 4, 32) := by kernel_rfl
theorem make_segs (n : Nat) (hn : n ≤ 1048576) (w : World) : (Instr.makeSlice 31 (.int .i64 (n : Int)) (.int .i64 (n : Int))).run Tryz.prog w = .ok (.slice (some ⟨w.heap.size, 0, none⟩) n n) (w.alloc (.cells (madeCells #[.int .i64 0, .int .i64 0, .int .i64 0, .int .i64 0] (n * 4)) 63)) := by
  obtain ⟨i, hi, hzz⟩ := Option.map_eq_some_iff.1 Tryz.infoSeg
  simp only [Prod.mk.injEq] at hzz
  obtain ⟨hz, hs, hb⟩ := hzz
  have hr := run_make (P := Tryz.prog) w 31 63 i (.agg #[.int .i64 0, .int .i64 0, .int .i64 0, .int .i64 0]) Tryz.underlying31 hi hz .i64 .i64 n n (by omega) (Int.le_refl _) (by rw [hb]; omega) (by omega)
  simp only [Int.toNat_natCast, hs, Value.cells] at hr
  exact hr
theorem row_made (w : World) (n : Nat) (T : TypeId) : (w.alloc (.cells (madeCells #[.int .i64 0, .int .i64 0, .int .i64 0, .int .i64 0] (n * 4)) T)).rowIs w.heap.size T (n * 4) (fun _ => .int .i64 0) := by
  have h := World.rowIs_alloc w (madeCells #[.int .i64 0, .int .i64 0, .int .i64 0, .int .i64 0] (n * 4)) T (fun _ => .int .i64 0) (fun i hi => by
    rw [size_madeCells] at hi
    simp [madeCells, hi]
    rcases (show i % 4 = 0 ∨ i % 4 = 1 ∨ i % 4 = 2 ∨ i % 4 = 3 by omega) with h | h | h | h <;> simp [h])
  rwa [size_madeCells] at h
/-- So far the row holds what was copied, behind it zeros. -/
def cpF (x : Nat → Int) (c : Nat) (i : Nat) : Value := .int .i64 (if i < c * 4 then x i else 0)
theorem row_step {w w' : World} {g n : Nat} {T : TypeId} {f : Nat → Value} (h : w.rowIs g T n f) (hB : Below w.heap.size w w') : w'.rowIs g T n f := h.of_block (hB.block g h.lt)
theorem cp_step {w : World} {g n c : Nat} {T : TypeId} {x : Nat → Int} (h : w.rowIs g T (n * 4) (cpF x c)) (_hc : c < n) :
    ((((w.setCell ⟨g, c * 4, none⟩ (.int .i64 (x (c * 4)))).setCell ⟨g, c * 4 + 1, none⟩ (.int .i64 (x (c * 4 + 1)))).setCell ⟨g, c * 4 + 2, none⟩ (.int .i64 (x (c * 4 + 2)))).setCell ⟨g, c * 4 + 3, none⟩ (.int .i64 (x (c * 4 + 3)))).rowIs g T (n * 4) (cpF x (c + 1)) := by
  refine ((((h.set (c * 4) (.int .i64 (x (c * 4)))).set (c * 4 + 1) (.int .i64 (x (c * 4 + 1)))).set (c * 4 + 2) (.int .i64 (x (c * 4 + 2)))).set (c * 4 + 3) (.int .i64 (x (c * 4 + 3)))).congr (fun i hi => ?_)
  unfold cpF
  by_cases h3 : i = c * 4 + 3
  · subst h3; simp <;> omega
  by_cases h2 : i = c * 4 + 2
  · subst h2; simp <;> omega
  by_cases h1 : i = c * 4 + 1
  · subst h1; simp <;> omega
  by_cases h0 : i = c * 4
  · subst h0; simp <;> omega
  simp [h3, h2, h1, h0]
  by_cases hl : i < c * 4
  · simp [hl] <;> omega
  · simp [hl] <;> omega
end Go.Proofs.YtpmnmlhfaoajdaaGreat

/- Rows of segments: the law of what is at fault in them. -/
namespace Go.Proofs.YtpmnmlhfaoajdaaGreat
open Go.RowKit
set_option maxRecDepth 100000 in
set_option maxHeartbeats 2000000 in
theorem eqSegS_any (ao bo : Option Addr) (n ca cb : Nat) (x : Nat → Int) (hn : n ≤ 1048576) (w : World) (hA : SegIn w ao n x) (hC : SegIn w bo n x) : Calls Tryz.prog 11 #[.slice ao n ca, .slice bo n cb] w (BoolP true w) := by
  have HA : Hid (SegIn w ao n x) := hA
  have HC : Hid (SegIn w bo n x) := hC
  have hnI : (n : Int) ≤ 1048576 := by omega
  clear hA hC
  go_enter Tryz.func11, Tryz.ntmps11
  go_wp2_with fail
  go_loopw [5] (fun i wr => ∃ c : Nat, c ≤ n ∧ i = .int .i64 c ∧ Below w.heap.size w wr) (fun i _ => n - (intOf i).toNat)
  case atStart => exact ⟨0, by omega, rfl, Below.refl _ _⟩
  case round =>
    obtain ⟨c, hc, rfl, HB⟩ := hrel
    by_cases hcn : c < n
    · obtain ⟨A, off, rfl, hA, hcell⟩ := HA.out.step HB c hcn
      have q0 := hcell 0 (by omega); have q1 := hcell 1 (by omega); have q2 := hcell 2 (by omega); have q3 := hcell 3 (by omega)
      simp only [Nat.add_zero] at q0
      obtain ⟨B, off', rfl, hB', hcell'⟩ := HC.out.step HB c hcn
      have r0 := hcell' 0 (by omega); have r1 := hcell' 1 (by omega); have r2 := hcell' 2 (by omega); have r3 := hcell' 3 (by omega)
      simp only [Nat.add_zero] at r0
      have hcI : (c : Int) < n := by omega
      clear hcell hcell'
      have KS : (fun w' => w'.cell? ⟨A, off + c * 4, none⟩ = some (.int .i64 (x (c * 4))) ∧ w'.cell? ⟨A, off + c * 4 + 1, none⟩ = some (.int .i64 (x (c * 4 + 1))) ∧ w'.cell? ⟨A, off + c * 4 + 2, none⟩ = some (.int .i64 (x (c * 4 + 2))) ∧ w'.cell? ⟨A, off + c * 4 + 3, none⟩ = some (.int .i64 (x (c * 4 + 3))) ∧ w'.cell? ⟨B, off' + c * 4, none⟩ = some (.int .i64 (x (c * 4))) ∧ w'.cell? ⟨B, off' + c * 4 + 1, none⟩ = some (.int .i64 (x (c * 4 + 1))) ∧ w'.cell? ⟨B, off' + c * 4 + 2, none⟩ = some (.int .i64 (x (c * 4 + 2))) ∧ w'.cell? ⟨B, off' + c * 4 + 3, none⟩ = some (.int .i64 (x (c * 4 + 3)))) wr := ⟨q0, q1, q2, q3, r0, r1, r2, r3⟩
      go_wp2_with fail
      go_region_held3 (fun w' => w'.cell? ⟨A, off + c * 4, none⟩ = some (.int .i64 (x (c * 4))) ∧ w'.cell? ⟨A, off + c * 4 + 1, none⟩ = some (.int .i64 (x (c * 4 + 1))) ∧ w'.cell? ⟨A, off + c * 4 + 2, none⟩ = some (.int .i64 (x (c * 4 + 2))) ∧ w'.cell? ⟨A, off + c * 4 + 3, none⟩ = some (.int .i64 (x (c * 4 + 3))) ∧ w'.cell? ⟨B, off' + c * 4, none⟩ = some (.int .i64 (x (c * 4))) ∧ w'.cell? ⟨B, off' + c * 4 + 1, none⟩ = some (.int .i64 (x (c * 4 + 1))) ∧ w'.cell? ⟨B, off' + c * 4 + 2, none⟩ = some (.int .i64 (x (c * 4 + 2))) ∧ w'.cell? ⟨B, off' + c * 4 + 3, none⟩ = some (.int .i64 (x (c * 4 + 3)))) (first | (exact KS) | (exact KS'))
        (first
          | (go_at_call 31; refine (eqSeg_same (x (c * 4)) (x (c * 4 + 1)) (x (c * 4 + 2)) (x (c * 4 + 3)) _).mono ?_; rintro e w1 ⟨rfl, hB⟩; have KS' : (fun w' => w'.cell? ⟨A, off + c * 4, none⟩ = some (.int .i64 (x (c * 4))) ∧ w'.cell? ⟨A, off + c * 4 + 1, none⟩ = some (.int .i64 (x (c * 4 + 1))) ∧ w'.cell? ⟨A, off + c * 4 + 2, none⟩ = some (.int .i64 (x (c * 4 + 2))) ∧ w'.cell? ⟨A, off + c * 4 + 3, none⟩ = some (.int .i64 (x (c * 4 + 3))) ∧ w'.cell? ⟨B, off' + c * 4, none⟩ = some (.int .i64 (x (c * 4))) ∧ w'.cell? ⟨B, off' + c * 4 + 1, none⟩ = some (.int .i64 (x (c * 4 + 1))) ∧ w'.cell? ⟨B, off' + c * 4 + 2, none⟩ = some (.int .i64 (x (c * 4 + 2))) ∧ w'.cell? ⟨B, off' + c * 4 + 3, none⟩ = some (.int .i64 (x (c * 4 + 3)))) w1 := ⟨(hB.cell (p := ⟨A, _, none⟩) hA).trans q0, (hB.cell (p := ⟨A, _, none⟩) hA).trans q1, (hB.cell (p := ⟨A, _, none⟩) hA).trans q2, (hB.cell (p := ⟨A, _, none⟩) hA).trans q3, (hB.cell (p := ⟨B, _, none⟩) hB').trans r0, (hB.cell (p := ⟨B, _, none⟩) hB').trans r1, (hB.cell (p := ⟨B, _, none⟩) hB').trans r2, (hB.cell (p := ⟨B, _, none⟩) hB').trans r3⟩; (first | (have HB2 := HB.trans (hB.mono HB.size)) | (have HB2 := HB.drew.trans (hB.mono HB.drew.size))); clear hB))
      all_goals clear HB KS q0 q1 q2 q3 r0 r1 r2 r3
      all_goals go_wp2
      all_goals go_roundw
      case rel => exact ⟨c + 1, by omega, by go_num, HB2⟩
      case measure => simp [intOf]; omega
    · obtain rfl : c = n := by omega
      clear HA HC
      go_wp2
      go_ret
      exact ⟨rfl, HB⟩
theorem szSegS_any (ao : Option Addr) (n cap : Nat) (hn : n ≤ 9223372036854775807) (w : World) : Calls Tryz.prog 5 #[.slice ao n cap, .int .i64 1048576] w (VP (.int .i64 (if n ≤ 1048576 then 1048576 - n else -1)) w) := by
  have hnI : (n : Int) ≤ 9223372036854775807 := by omega
  by_cases h : n ≤ 1048576
  · rw [if_pos h]
    have h' : (n : Int) ≤ 1048576 := by omega
    go_enter Tryz.func5, Tryz.ntmps5
    go_wp2
    go_ret
    exact ⟨rfl, Below.refl _ _⟩
  · rw [if_neg h]
    have h' : (1048576 : Int) < n := by omega
    go_enter Tryz.func5, Tryz.ntmps5
    go_wp2
    go_ret
    exact ⟨rfl, Below.refl _ _⟩
end Go.Proofs.YtpmnmlhfaoajdaaGreat

/- Rows of numbers: how they lie; copied, held against one another. -/
namespace Go.Proofs.YtpmnmlhfaoajdaaGreat
open Go.RowKit
/-- n numbers lie behind a slice's address. -/
def NoIn (w : World) (ao : Option Addr) (n : Nat) (x : Nat → Int) : Prop :=
  ∀ i, i < n → ∃ A off, ao = some ⟨A, off, none⟩ ∧ A < w.heap.size ∧ w.cell? ⟨A, off + i, none⟩ = some (.int .i64 (x i))
theorem NoIn.step {w w' : World} {ao : Option Addr} {n : Nat} {x : Nat → Int} (h : NoIn w ao n x) (hB : Below w.heap.size w w') : NoIn w' ao n x := fun i hi => by
  obtain ⟨A, off, e, hA, hc⟩ := h i hi
  exact ⟨A, off, e, Nat.lt_of_lt_of_le hA hB.size, (hB.cell (p := ⟨A, off + i, none⟩) hA).trans hc⟩
theorem Tryz.infoNo : (Tryz.prog.info? 2).map (fun i => (i.zero, i.size, i.bytes)) = some (some (.int .i64 0), 1, 8) := by kernel_rfl
set_option maxRecDepth 100000 in
set_option maxHeartbeats 2000000 in
theorem eqNoS_any (ao bo : Option Addr) (n ca cb : Nat) (x : Nat → Int) (hn : n ≤ 1048576) (w : World) (hA : NoIn w ao n x) (hC : NoIn w bo n x) : Calls Tryz.prog 10 #[.slice ao n ca, .slice bo n cb] w (BoolP true w) := by
  have HA : Hid (NoIn w ao n x) := hA
  have HC : Hid (NoIn w bo n x) := hC
  have hnI : (n : Int) ≤ 1048576 := by omega
  clear hA hC
  go_enter Tryz.func10, Tryz.ntmps10
  go_wp2_with fail
  go_loopw [5] (fun i wr => ∃ c : Nat, c ≤ n ∧ i = .int .i64 c ∧ Below w.heap.size w wr) (fun i _ => n - (intOf i).toNat)
  case atStart => exact ⟨0, by omega, rfl, Below.refl _ _⟩
  case round =>
    obtain ⟨c, hc, rfl, HB⟩ := hrel
    by_cases hcn : c < n
    · obtain ⟨A, off, rfl, hA, q0⟩ := HA.out.step HB c hcn
      obtain ⟨B, of2, rfl, hB', r0⟩ := HC.out.step HB c hcn
      have hcI : (c : Int) < n := by omega
      have KS : (fun w' => w'.cell? ⟨A, off + c, none⟩ = some (.int .i64 (x c)) ∧ w'.cell? ⟨B, of2 + c, none⟩ = some (.int .i64 (x c))) wr := ⟨q0, r0⟩
      have hxx : (x c == x c) = true := by simp
      go_wp2_with fail
      go_region_held3 (fun w' => w'.cell? ⟨A, off + c, none⟩ = some (.int .i64 (x c)) ∧ w'.cell? ⟨B, of2 + c, none⟩ = some (.int .i64 (x c))) (exact KS)
        (first | fail)
      all_goals clear KS q0 r0
      all_goals go_wp2
      all_goals go_roundw
      all_goals first | exact ⟨c + 1, by omega, by go_num, HB⟩ | exact ⟨c + 1, by omega, by go_num, HB.drew⟩ | (simp [intOf]; omega)
    · obtain rfl : c = n := by omega
      clear HA HC
      go_wp2
      go_ret
      exact ⟨rfl, HB⟩
end Go.Proofs.YtpmnmlhfaoajdaaGreat

/- Answers that own their rows of numbers: held against one another, marked, held again; a row of segments marked. -/
namespace Go.Proofs.YtpmnmlhfaoajdaaGreat
open Go.RowKit
/-- A slice of the call's own, with these numbers. -/
def NoOwn (w : World) (base : Nat) (v : Value) (L : List Int) : Prop :=
  (v = .slice none 0 0 ∧ L = []) ∨ ∃ g cap f, v = .slice (some ⟨g, 0, none⟩) L.length cap ∧ base ≤ g ∧ L.length ≤ cap ∧ w.rowIs g 2 cap f ∧ ∀ i, i < L.length → f i = .int .i64 (L.getD i 0)
theorem NoOwn.step {w w' : World} {base : Nat} {v : Value} {L : List Int} (h : NoOwn w base v L) (hB : Below w.heap.size w w') : NoOwn w' base v L := by
  rcases h with h | ⟨g, cap, f, h1, h2, h3, h4, h5⟩
  · exact .inl h
  · exact .inr ⟨g, cap, f, h1, h2, h3, row_step h4 hB, h5⟩
theorem NoOwn.of {w : World} {base : Nat} {v : Value} {L : List Int} (h : w.ownsRow base 2 1 v L.length (L.map (Value.int .i64))) : NoOwn w base v L := by
  rcases h.2 with ⟨h1, h2⟩ | ⟨g, cap, cur, h1, h2, h3, h4, h5, h6, h7⟩
  · exact .inl ⟨h1, List.length_eq_zero_iff.1 h2⟩
  · refine .inr ⟨g, cap, fun i => cur.getD i undef, h1, h2, h4, ⟨cur, h3, by omega, fun i hi => ?_⟩, fun i hi => ?_⟩
    · simp [Array.getD_eq_getD_getElem?, show i < cur.size by omega]
    · have e : (cur.toList.take (L.length * 1))[i]? = (L.map (Value.int .i64))[i]? := by rw [h7]
      rw [List.getElem?_take_of_lt (by omega), List.getElem?_map, List.getElem?_eq_getElem hi] at e
      simp only [Array.getElem?_toList, Option.map_some] at e
      show cur.getD i undef = _
      rw [Array.getD_eq_getD_getElem?, e]
      simp [List.getD_eq_getElem?_getD, hi]
/-- The slice's own parts, and that its numbers lie there. -/
theorem NoOwn.in {w : World} {base : Nat} {v : Value} {L : List Int} (h : NoOwn w base v L) : ∃ ao cap, v = .slice ao L.length cap ∧ NoIn w ao L.length (fun i => L.getD i 0) := by
  rcases h with ⟨h1, h2⟩ | ⟨g, cap, f, h1, h2, h3, h4, h5⟩
  · subst h2
    exact ⟨none, 0, h1, fun i hi => by simp at hi⟩
  · exact ⟨some ⟨g, 0, none⟩, cap, h1, fun i hi => ⟨g, 0, rfl, h4.lt, by rw [Nat.zero_add, h4.cell (by omega), h5 i hi]⟩⟩
/-- No block has turned but one of those that a base leaves free. -/
def OtherB (h : Option Nat) (w w' : World) : Prop :=
  (∀ g, some g ≠ h → g < w.heap.size → w'.heap[g]? = w.heap[g]?) ∧ w.heap.size ≤ w'.heap.size ∧ ∀ w0 : World, (∀ g, h = some g → w0.heap.size ≤ g) → Below w0.heap.size w0 w → Below w0.heap.size w0 w'
theorem OtherB.row {h : Option Nat} {w w' : World} (k : OtherB h w w') {g n : Nat} {T : TypeId} {f : Nat → Value} (hne : some g ≠ h) (r : w.rowIs g T n f) : w'.rowIs g T n f := r.of_block (k.1 g hne r.lt)
theorem OtherB.own {h : Option Nat} {w w' : World} (k : OtherB h w w') {base : Nat} {v : Value} {L : List Int} (r : NoOwn w base v L) (hne : ∀ g, v.ownBlock = some g → some g ≠ h) : NoOwn w' base v L := by
  rcases r with r | ⟨g, cap, f, h1, h2, h3, h4, h5⟩
  · exact .inl r
  · exact .inr ⟨g, cap, f, h1, h2, h3, k.row (hne g (by subst h1; rfl)) h4, h5⟩
theorem OtherB.blk {h : Option Nat} {w w' : World} (k : OtherB h w w') {g : Nat} {vs : List Value} (hne : some g ≠ h) (r : Blk w g vs) : Blk w' g vs := by
  refine ⟨Nat.lt_of_lt_of_le r.lt k.2.1, fun i v hi => ⟨?_, ?_⟩⟩
  · have := r.c i hi
    unfold World.cell? at this ⊢
    simp only [k.1 g hne r.lt]
    exact this
  · have := r.f i hi
    unfold World.frozen? at this ⊢
    simp only [k.1 g hne r.lt]
    exact this
theorem OtherB.refl (h : Option Nat) (w : World) : OtherB h w w := ⟨fun _ _ _ => rfl, Nat.le_refl _, fun _ _ H => H⟩
theorem OtherB.set {h : Nat} {w w' : World} (k : OtherB (some h) w w') (i : Nat) (v : Value) : OtherB (some h) w (w'.setCell ⟨h, i, none⟩ v) := by
  refine ⟨fun g hne hg => ?_, by simpa [World.setCell] using k.2.1, fun w0 hb H => (k.2.2 w0 hb H).setCell (by exact hb h rfl) _⟩
  rw [Below.heap_setCell _ _ _ _ (fun e => hne (congrArg some e))]
  exact k.1 g hne hg
theorem OtherB.step {h : Option Nat} {w w' w'' : World} (k : OtherB h w w') (hB : Below w'.heap.size w' w'') : OtherB h w w'' :=
  ⟨fun g hne hg => (hB.block g (Nat.lt_of_lt_of_le hg k.2.1)).trans (k.1 g hne hg), Nat.le_trans k.2.1 hB.size, fun w0 hb H => (k.2.2 w0 hb H).trans (hB.mono (k.2.2 w0 hb H).size)⟩
/-- 1, 2 and so on, so far; behind them what was there. -/
def mkL (n : Nat) : List Int := (List.range n).map fun (i : Nat) => ((i : Int) + 1)
theorem mkL_len (n : Nat) : (mkL n).length = n := by simp [mkL]
theorem mkL_at {n i : Nat} (h : i < n) : (mkL n).getD i 0 = (i : Int) + 1 := by simp [mkL, List.getD_eq_getElem?_getD, h]
def mkF (f : Nat → Value) (c : Nat) (i : Nat) : Value := if i < c then .int .i64 ((i : Int) + 1) else f i
set_option maxRecDepth 100000 in
set_option maxHeartbeats 2000000 in
theorem markNoS_any (v : Value) (L : List Int) (base : Nat) (hn : L.length ≤ 1048576) (w : World) (hO : NoOwn w base v L) : Calls Tryz.prog 13 #[v, .int .i64 1] w (fun e w' => e = .returned (.int .i64 ((L.length : Int) + 1)) ∧ NoOwn w' base v (mkL L.length) ∧ OtherB v.ownBlock w w') := by
  rcases hO with ⟨rfl, rfl⟩ | ⟨g, cap, f, rfl, hg, hc, R, hf⟩
  · go_enter Tryz.func13, Tryz.ntmps13
    go_wp2_with fail
    go_loopw [1, 5] (fun o i wr => o = .int .i64 1 ∧ i = .int .i64 0 ∧ wr = w) (fun _ i _ => 0)
    case atStart => exact ⟨rfl, rfl, rfl⟩
    case round =>
      obtain ⟨rfl, rfl, rfl⟩ := hrel
      go_wp2
      go_ret
      exact ⟨rfl, .inl ⟨rfl, rfl⟩, OtherB.refl _ _⟩
  · generalize hn' : L.length = n at *
    have HR : Hid (w.rowIs g 2 cap f) := R
    clear R hf hn'
    have hnI : (n : Int) ≤ 1048576 := by omega
    go_enter Tryz.func13, Tryz.ntmps13
    go_wp2_with fail
    go_loopw [1, 5] (fun o i wr => ∃ c : Nat, c ≤ n ∧ o = .int .i64 ((c : Int) + 1) ∧ i = .int .i64 c ∧ wr.rowIs g 2 cap (mkF f c) ∧ OtherB (some g) w wr) (fun _ i _ => n - (intOf i).toNat)
    case atStart => exact ⟨0, by omega, rfl, rfl, HR.out.congr (fun i _ => by unfold mkF; simp), OtherB.refl _ _⟩
    case round =>
      obtain ⟨c, hcn, rfl, rfl, R, K⟩ := hrel
      by_cases hlt : c < n
      · have hcI : (c : Int) < n := by omega
        have o0 := R.cell (i := c) (by omega)
        have f0 := R.frozen c
        have RN : (wr.setCell ⟨g, c, none⟩ (.int .i64 ((c : Int) + 1))).rowIs g 2 cap (mkF f (c + 1)) := (R.set c (.int .i64 ((c : Int) + 1))).congr (fun i _ => by
          unfold mkF
          by_cases e : i = c
          · subst e; simp
          · simp only [e, if_false]
            by_cases e2 : i < c
            · rw [if_pos e2, if_pos (by omega)]
            · rw [if_neg e2, if_neg (by omega)])
        have KN := K.set c (.int .i64 ((c : Int) + 1))
        clear R K
        go_wp2
        go_roundw
        case rel => exact ⟨c + 1, by omega, by go_num, by go_num, RN, KN⟩
        case measure => simp [intOf]; omega
      · obtain rfl : c = n := by omega
        go_wp2
        go_ret
        exact ⟨rfl, .inr ⟨g, cap, mkF f c, by rw [mkL_len], hg, by rw [mkL_len]; exact hc, R, fun i hi => by rw [mkL_len] at hi; rw [mkL_at hi]; unfold mkF; rw [if_pos hi]⟩, K⟩
set_option maxRecDepth 100000 in
set_option maxHeartbeats 2000000 in
theorem heldNoS_any (v : Value) (n : Nat) (base : Nat) (hn : n ≤ 1048576) (w : World) (hO : NoOwn w base v (mkL n)) : Calls Tryz.prog 14 #[v, .int .i64 1] w (VP (.int .i64 ((n : Int) + 1)) w) := by
  obtain ⟨ao, cap, rfl, HI⟩ := hO.in
  rw [mkL_len] at HI
  rw [mkL_len]
  have HR : Hid (NoIn w ao n (fun i => (mkL n).getD i 0)) := HI
  clear HI hO
  have hnI : (n : Int) ≤ 1048576 := by omega
  go_enter Tryz.func14, Tryz.ntmps14
  go_wp2_with fail
  go_loopw [1, 5] (fun o i wr => ∃ c : Nat, c ≤ n ∧ o = .int .i64 ((c : Int) + 1) ∧ i = .int .i64 c ∧ Below w.heap.size w wr) (fun _ i _ => n - (intOf i).toNat)
  case atStart => exact ⟨0, by omega, rfl, rfl, Below.refl _ _⟩
  case round =>
    obtain ⟨c, hcn, rfl, rfl, HB⟩ := hrel
    by_cases hlt : c < n
    · have hcI : (c : Int) < n := by omega
      obtain ⟨A, off, rfl, hA, hcell0⟩ := HR.out.step HB c hlt
      have hcell : wr.cell? ⟨A, off + c, none⟩ = some (.int .i64 ((c : Int) + 1)) := by rw [← mkL_at hlt]; exact hcell0
      clear hcell0
      go_wp2
      go_roundw
      case rel => exact ⟨c + 1, by omega, by go_num, by go_num, HB⟩
      case measure => simp [intOf]; omega
    · obtain rfl : c = n := by omega
      go_wp2
      go_ret
      exact ⟨rfl, HB⟩
set_option maxRecDepth 100000 in
set_option maxHeartbeats 4000000 in
theorem markSegS_any (g n : Nat) (f : Nat → Value) (hn : n ≤ 1048576) (w : World) (R0 : w.rowIs g 63 (n * 4) f) (hf : ∀ i, i < n * 4 → ∃ z, f i = .int .i64 z) : Calls Tryz.prog 12 #[.slice (some ⟨g, 0, none⟩) n n, .int .i64 1] w (fun e w' => e = .returned (.int .i64 ((n : Int) * 4 + 1)) ∧ OtherB (some g) w w') := by
  have HR : Hid (w.rowIs g 63 (n * 4) f ∧ ∀ i, i < n * 4 → ∃ z, f i = .int .i64 z) := ⟨R0, hf⟩
  clear R0 hf
  have hnI : (n : Int) ≤ 1048576 := by omega
  go_enter Tryz.func12, Tryz.ntmps12
  go_wp2_with fail
  go_loopw [1, 5] (fun o i wr => ∃ c : Nat, c ≤ n ∧ o = .int .i64 ((c : Int) * 4 + 1) ∧ i = .int .i64 c ∧ (∃ f, wr.rowIs g 63 (n * 4) f ∧ ∀ i, i < n * 4 → ∃ z, f i = .int .i64 z) ∧ OtherB (some g) w wr) (fun _ i _ => n - (intOf i).toNat)
  case atStart => exact ⟨0, by omega, rfl, rfl, ⟨f, HR.out.1, HR.out.2⟩, OtherB.refl _ _⟩
  case round =>
    obtain ⟨c, hcn, rfl, rfl, ⟨f', R, hf'⟩, K⟩ := hrel
    by_cases hlt : c < n
    · have hcI : (c : Int) < n := by omega
      obtain ⟨z0, e0⟩ := hf' (c * 4) (by omega)
      obtain ⟨z1, e1⟩ := hf' (c * 4 + 1) (by omega)
      obtain ⟨z2, e2⟩ := hf' (c * 4 + 2) (by omega)
      obtain ⟨z3, e3⟩ := hf' (c * 4 + 3) (by omega)
      have o0 := R.cell (i := c * 4) (by omega)
      have o1 := R.cell (i := c * 4 + 1) (by omega)
      have o2 := R.cell (i := c * 4 + 2) (by omega)
      have o3 := R.cell (i := c * 4 + 3) (by omega)
      rw [e0] at o0
      rw [e1] at o1
      rw [e2] at o2
      rw [e3] at o3
      have f0 := R.frozen (c * 4); have f1 := R.frozen (c * 4 + 1); have f2 := R.frozen (c * 4 + 2); have f3 := R.frozen (c * 4 + 3)
      have RN := (((R.set (c * 4) (.int .i64 ((c : Int) * 4 + 1))).set (c * 4 + 1) (.int .i64 ((c : Int) * 4 + 1 + 1))).set (c * 4 + 2) (.int .i64 ((c : Int) * 4 + 1 + 1 + 1))).set (c * 4 + 3) (.int .i64 ((c : Int) * 4 + 1 + 1 + 1 + 1))
      have KN := (((K.set (c * 4) (.int .i64 ((c : Int) * 4 + 1))).set (c * 4 + 1) (.int .i64 ((c : Int) * 4 + 1 + 1))).set (c * 4 + 2) (.int .i64 ((c : Int) * 4 + 1 + 1 + 1))).set (c * 4 + 3) (.int .i64 ((c : Int) * 4 + 1 + 1 + 1 + 1))
      have HF : Hid (∀ i, i < n * 4 → ∃ z, (if i = c * 4 + 3 then .int .i64 ((c : Int) * 4 + 1 + 1 + 1 + 1) else if i = c * 4 + 2 then .int .i64 ((c : Int) * 4 + 1 + 1 + 1) else if i = c * 4 + 1 then .int .i64 ((c : Int) * 4 + 1 + 1) else if i = c * 4 then .int .i64 ((c : Int) * 4 + 1) else f' i) = Value.int .i64 z) := fun i hi => by
        split
        · exact ⟨_, rfl⟩
        · split
          · exact ⟨_, rfl⟩
          · split
            · exact ⟨_, rfl⟩
            · split
              · exact ⟨_, rfl⟩
              · exact hf' i hi
      have RNH : Hid (((((wr.setCell ⟨g, c * 4, none⟩ (.int .i64 ((c : Int) * 4 + 1))).setCell ⟨g, c * 4 + 1, none⟩ (.int .i64 ((c : Int) * 4 + 1 + 1))).setCell ⟨g, c * 4 + 2, none⟩ (.int .i64 ((c : Int) * 4 + 1 + 1 + 1))).setCell ⟨g, c * 4 + 3, none⟩ (.int .i64 ((c : Int) * 4 + 1 + 1 + 1 + 1))).rowIs g 63 (n * 4) (fun i => if i = c * 4 + 3 then .int .i64 ((c : Int) * 4 + 1 + 1 + 1 + 1) else if i = c * 4 + 2 then .int .i64 ((c : Int) * 4 + 1 + 1 + 1) else if i = c * 4 + 1 then .int .i64 ((c : Int) * 4 + 1 + 1) else if i = c * 4 then .int .i64 ((c : Int) * 4 + 1) else f' i)) := RN
      clear R K hf' e0 e1 e2 e3 RN
      go_wp2
      go_roundw
      case rel => exact ⟨c + 1, by omega, by go_num, by go_num, ⟨_, RNH.out, HF.out⟩, KN⟩
      case measure => simp [intOf]; omega
    · obtain rfl : c = n := by omega
      go_wp2
      go_ret
      exact ⟨rfl, K⟩
end Go.Proofs.YtpmnmlhfaoajdaaGreat

/- The turn of three spots: the walks. -/
namespace Go.Proofs.YtpmnmlhfaoajdaaGreat
open Go.RowKit
end Go.Proofs.YtpmnmlhfaoajdaaGreat

/- The sides of a segment on which spots are: the walk of the program's loop. -/
namespace Go.Proofs.YtpmnmlhfaoajdaaGreat
open Go.RowKit
structure PartI (w wr : World) (g : Nat) (sg sl : List Value) : Prop where
  below : Below w.heap.size w wr
  seg : Blk wr w.heap.size sg
  row : Blk wr g sl
theorem PartI.step {w wr wr' : World} {g : Nat} {sg sl : List Value} (h : PartI w wr g sg sl) (hB : Below wr.heap.size wr wr') : PartI w wr' g sg sl := ⟨h.below.trans (hB.mono h.below.size), h.seg.step hB, h.row.step hB⟩
theorem PartI.alloc {w wr : World} {g : Nat} {sg sl : List Value} (h : PartI w wr g sg sl) (o : Obj) : PartI w (wr.alloc o) g sg sl := h.step ((Below.refl _ _).alloc (Nat.le_refl _) o)
end Go.Proofs.YtpmnmlhfaoajdaaGreat

/- Whether a segment meets a box: the walk of the model's part that is asked of right ones. -/
namespace Go.Proofs.YtpmnmlhfaoajdaaGreat
open Go.RowKit
end Go.Proofs.YtpmnmlhfaoajdaaGreat

/- Whether a segment meets a box: the walks of the program and of the model, and of the law. -/
namespace Go.Proofs.YtpmnmlhfaoajdaaGreat
open Go.RowKit
end Go.Proofs.YtpmnmlhfaoajdaaGreat

/- Whether a segment meets a box: the walk of the program. -/
namespace Go.Proofs.YtpmnmlhfaoajdaaGreat
open Go.RowKit
end Go.Proofs.YtpmnmlhfaoajdaaGreat

/- Segments that meet a box, by their numbers: both sides. -/
namespace Go.Proofs.YtpmnmlhfaoajdaaGreat
open Go.RowKit
theorem sgI_zero {n : Nat} {x : Nat → Int} (h : sgI n x = 0) : n ≤ 40 ∧ ∀ i, i < n → segOk (x (i * 4)) (x (i * 4 + 1)) (x (i * 4 + 2)) (x (i * 4 + 3)) = true := by
  unfold sgI at h
  split at h
  · cases h
  · split at h
    · exact ⟨by omega, by assumption⟩
    · cases h
theorem own_step {w w' : World} {base n : Nat} {e : TypeId} {v : Value} {xs : List Value} (h : w.ownsRow base e 1 v n xs) (hB : Below w.heap.size w w') : w'.ownsRow base e 1 v n xs := by
  rcases h with ⟨h0, h1 | ⟨g, cap, cur, h1, h2, h3, h4⟩⟩
  · exact ⟨h0, .inl h1⟩
  · refine ⟨h0, .inr ⟨g, cap, cur, h1, h2, ?_, h4⟩⟩
    rw [hB.block g (Array.getElem?_eq_some_iff.1 h3).1]
    exact h3
theorem argsB_grown {w W W' : World} {vss : List (List Value)} {row : Option Nat} (h : ArgsB w W vss) (hl : w.heap.size + vss.length ≤ W.heap.size) (hg : W.grownBy W' row) (hr : ∀ k, row = some k → w.heap.size + vss.length ≤ k) : ArgsB w W' vss := by
  have hB : Below (w.heap.size + vss.length) W W' := (Below.refl _ W).grown hg hl hr
  refine ⟨h.1.trans (hB.mono (by omega)), fun j vs hj => (h.2 j vs hj).below hB ?_⟩
  have := (List.getElem?_eq_some_iff.1 hj).1
  omega
theorem NoOwn.mono {w : World} {b b' : Nat} {v : Value} {L : List Int} (h : NoOwn w b' v L) (hb : b ≤ b') : NoOwn w b v L := by
  rcases h with h | ⟨g, cap, f, h1, h2, h3⟩
  · exact .inl h
  · exact .inr ⟨g, cap, f, h1, by omega, h3⟩
set_option maxRecDepth 100000 in
theorem l7Ok_any (ao : Option Addr) (n cap : Nat) (x : Nat → Int) (w : World) (hS : SegIn w ao n x) : Calls Tryz.prog 22 #[.slice ao n cap] w (BoolP (decide (sgI n x = 0)) w) := by
  have C := specSegsFault_any ao n cap x w hS
  revert C
  generalize sgI n x = o
  intro C
  clear hS
  go_enter Tryz.func22, Tryz.ntmps22
  go_wp2_with fail
  refine C.mono ?_
  rintro e w1 ⟨rfl, hB⟩
  by_cases h : o = 0
  · subst h
    go_wp2
    go_ret
    exact ⟨rfl, hB⟩
  · have hf : (o == 0) = false := by simp; omega
    have HD : Hid (decide (o = 0) = false) := decide_eq_false h
    go_wp2
    go_ret
    exact ⟨by rw [HD.out]; rfl, hB⟩
end Go.Proofs.YtpmnmlhfaoajdaaGreat

/- The walk of the model's quotient and rest of numbers with signs. -/
namespace Go.Proofs.YtpmnmlhfaoajdaaGreat
open Go.RowKit
theorem num_more {w : World} {s : Bool} {ao : Option Addr} {n cap : Nat} {ds : List Int} {z : Int} {k k' : Nat} (h : IsNum w s ao n cap ds z k) (hk : k ≤ k') : IsNum w s ao n cap ds z k' := ⟨h.neg, h.len, h.cap, h.rd, h.nrm, h.val, Nat.le_trans h.le hk⟩
end Go.Proofs.YtpmnmlhfaoajdaaGreat

/- Points: the model's numbers of a point, and whether it is right. -/
namespace Go.Proofs.YtpmnmlhfaoajdaaGreat
open Go.RowKit
theorem from_det (x : Int) (hx : told x = true) (w : World) : Calls Tryz.prog 55 #[W4 x] w (NumP 8 x w) := by
  obtain ⟨p3, p2, p1, p0⟩ := ww_words x
  have h := from_any (ww3 x) (ww2 x) (ww1 x) (ww0 x) p3 p2 p1 p0 w
  rw [ww_sw hx] at h
  exact h
theorem ArgsB.set6g {w W : World} {vss : List (List Value)} (h : ArgsB w W vss) {g : Nat} (hg : w.heap.size + vss.length ≤ g) (v0 v1 v2 v3 v4 v5 : Value) : ArgsB w ((((((W.setCell ⟨g, 0, none⟩ v0).setCell ⟨g, 1, none⟩ v1).setCell ⟨g, 2, none⟩ v2).setCell ⟨g, 3, none⟩ v3).setCell ⟨g, 4, none⟩ v4).setCell ⟨g, 5, none⟩ v5) vss := (((((h.set (by exact hg) _).set (by exact hg) _).set (by exact hg) _).set (by exact hg) _).set (by exact hg) _).set (by exact hg) _
theorem l3o_cells {x y z : Int} {w W : World} (T0 : ArgsB w W [[.int .u64 (ww3 x), .int .u64 (ww2 x), .int .u64 (ww1 x), .int .u64 (ww0 x), .int .u64 (ww3 y), .int .u64 (ww2 y), .int .u64 (ww1 y), .int .u64 (ww0 y), .int .u64 (ww3 z), .int .u64 (ww2 z), .int .u64 (ww1 z), .int .u64 (ww0 z)]]) : (fun w' => w'.cell? ⟨w.heap.size, 0, none⟩ = some (.int .u64 (ww3 x)) ∧ w'.cell? ⟨w.heap.size, 1, none⟩ = some (.int .u64 (ww2 x)) ∧ w'.cell? ⟨w.heap.size, 2, none⟩ = some (.int .u64 (ww1 x)) ∧ w'.cell? ⟨w.heap.size, 3, none⟩ = some (.int .u64 (ww0 x)) ∧ w'.cell? ⟨w.heap.size, 4, none⟩ = some (.int .u64 (ww3 y)) ∧ w'.cell? ⟨w.heap.size, 5, none⟩ = some (.int .u64 (ww2 y)) ∧ w'.cell? ⟨w.heap.size, 6, none⟩ = some (.int .u64 (ww1 y)) ∧ w'.cell? ⟨w.heap.size, 7, none⟩ = some (.int .u64 (ww0 y)) ∧ w'.cell? ⟨w.heap.size, 8, none⟩ = some (.int .u64 (ww3 z)) ∧ w'.cell? ⟨w.heap.size, 9, none⟩ = some (.int .u64 (ww2 z)) ∧ w'.cell? ⟨w.heap.size, 10, none⟩ = some (.int .u64 (ww1 z)) ∧ w'.cell? ⟨w.heap.size, 11, none⟩ = some (.int .u64 (ww0 z))) W := ⟨(T0.b 0 rfl).c 0 rfl, (T0.b 0 rfl).c 1 rfl, (T0.b 0 rfl).c 2 rfl, (T0.b 0 rfl).c 3 rfl, (T0.b 0 rfl).c 4 rfl, (T0.b 0 rfl).c 5 rfl, (T0.b 0 rfl).c 6 rfl, (T0.b 0 rfl).c 7 rfl, (T0.b 0 rfl).c 8 rfl, (T0.b 0 rfl).c 9 rfl, (T0.b 0 rfl).c 10 rfl, (T0.b 0 rfl).c 11 rfl⟩
set_option maxRecDepth 100000 in
set_option maxHeartbeats 2000000 in
theorem l3Of_det (x y z : Int) (hx : told x = true) (hy : told y = true) (hz : told z = true) (w : World) : Calls Tryz.prog 25 #[PV x y z] w (L3P 8 x y z w) := by
  have T5 : ArgsB w ((w.alloc (.cells #[.int .u64 (ww3 x), .int .u64 (ww2 x), .int .u64 (ww1 x), .int .u64 (ww0 x), .int .u64 (ww3 y), .int .u64 (ww2 y), .int .u64 (ww1 y), .int .u64 (ww0 y), .int .u64 (ww3 z), .int .u64 (ww2 z), .int .u64 (ww1 z), .int .u64 (ww0 z)] 35)).alloc (.cells #[.bool false, .slice none 0 0, .bool false, .slice none 0 0, .bool false, .slice none 0 0] 58)) [[.int .u64 (ww3 x), .int .u64 (ww2 x), .int .u64 (ww1 x), .int .u64 (ww0 x), .int .u64 (ww3 y), .int .u64 (ww2 y), .int .u64 (ww1 y), .int .u64 (ww0 y), .int .u64 (ww3 z), .int .u64 (ww2 z), .int .u64 (ww1 z), .int .u64 (ww0 z)], [.bool false, .slice none 0 0, .bool false, .slice none 0 0, .bool false, .slice none 0 0]] := ar2 _ _ _ _ w
  have R0 := T5.b 1 rfl
  have T0 : ArgsB w _ [[.int .u64 (ww3 x), .int .u64 (ww2 x), .int .u64 (ww1 x), .int .u64 (ww0 x), .int .u64 (ww3 y), .int .u64 (ww2 y), .int .u64 (ww1 y), .int .u64 (ww0 y), .int .u64 (ww3 z), .int .u64 (ww2 z), .int .u64 (ww1 z), .int .u64 (ww0 z)]] := T5.left (vs := [[.bool false, .slice none 0 0, .bool false, .slice none 0 0, .bool false, .slice none 0 0]])
  clear T5
  have F1 := from_det x hx
  have F2 := from_det y hy
  have F3 := from_det z hz
  clear hx hy hz
  have tok1 : True := trivial
  have tok2 : True := trivial
  go_enter Tryz.func25, Tryz.ntmps25
  go_upto_region 1 with fail
  generalize ((w.alloc (.cells #[.int .u64 (ww3 x), .int .u64 (ww2 x), .int .u64 (ww1 x), .int .u64 (ww0 x), .int .u64 (ww3 y), .int .u64 (ww2 y), .int .u64 (ww1 y), .int .u64 (ww0 y), .int .u64 (ww3 z), .int .u64 (ww2 z), .int .u64 (ww1 z), .int .u64 (ww0 z)] 35)).alloc (.cells #[.bool false, .slice none 0 0, .bool false, .slice none 0 0, .bool false, .slice none 0 0] 58)) = W at *
  go_region_held3 (fun w' => w'.cell? ⟨w.heap.size, 0, none⟩ = some (.int .u64 (ww3 x)) ∧ w'.cell? ⟨w.heap.size, 1, none⟩ = some (.int .u64 (ww2 x)) ∧ w'.cell? ⟨w.heap.size, 2, none⟩ = some (.int .u64 (ww1 x)) ∧ w'.cell? ⟨w.heap.size, 3, none⟩ = some (.int .u64 (ww0 x)) ∧ w'.cell? ⟨w.heap.size, 4, none⟩ = some (.int .u64 (ww3 y)) ∧ w'.cell? ⟨w.heap.size, 5, none⟩ = some (.int .u64 (ww2 y)) ∧ w'.cell? ⟨w.heap.size, 6, none⟩ = some (.int .u64 (ww1 y)) ∧ w'.cell? ⟨w.heap.size, 7, none⟩ = some (.int .u64 (ww0 y)) ∧ w'.cell? ⟨w.heap.size, 8, none⟩ = some (.int .u64 (ww3 z)) ∧ w'.cell? ⟨w.heap.size, 9, none⟩ = some (.int .u64 (ww2 z)) ∧ w'.cell? ⟨w.heap.size, 10, none⟩ = some (.int .u64 (ww1 z)) ∧ w'.cell? ⟨w.heap.size, 11, none⟩ = some (.int .u64 (ww0 z))) ((refine l3o_cells ?_ <;> repeat (first | (with_reducible exact T0) | (with_reducible refine ArgsB.drew ?_) | (with_reducible refine ArgsB.set6g ?_ (by simp; try omega) _ _ _ _ _ _))))
    (first
      | (go_at_call 55; have _t := tok1; refine (F1 _).mono ?_; rintro e w1 ⟨s1, o1, n1, c1, d1, rfl, N1, hB⟩; (first | (have T1 : ArgsB w w1 [[.int .u64 (ww3 x), .int .u64 (ww2 x), .int .u64 (ww1 x), .int .u64 (ww0 x), .int .u64 (ww3 y), .int .u64 (ww2 y), .int .u64 (ww1 y), .int .u64 (ww0 y), .int .u64 (ww3 z), .int .u64 (ww2 z), .int .u64 (ww1 z), .int .u64 (ww0 z)]] := (by with_reducible exact T0.step hB); have tltw1 := (T0.b 0 rfl).lt; have lR0w1 := R0.lt; replace R0 := R0.step hB; skip) | (have T1 : ArgsB w w1 [[.int .u64 (ww3 x), .int .u64 (ww2 x), .int .u64 (ww1 x), .int .u64 (ww0 x), .int .u64 (ww3 y), .int .u64 (ww2 y), .int .u64 (ww1 y), .int .u64 (ww0 y), .int .u64 (ww3 z), .int .u64 (ww2 z), .int .u64 (ww1 z), .int .u64 (ww0 z)]] := (by with_reducible exact T0.drew.step hB); have tltw1 := (T0.b 0 rfl).lt; have lR0w1 := R0.lt; replace R0 := R0.drew.step hB; skip)); clear T0; have T0 := T1; clear T1; clear hB tok1 _t)
      | (go_at_call 55; have _t := tok2; refine (F2 _).mono ?_; rintro e w2 ⟨s2, o2, n2, c2, d2, rfl, N2, hB⟩; (first | (replace N1 := N1.below hB; skip) | (replace N1 := N1.drew.below hB; skip)); (first | (have T1 : ArgsB w w2 [[.int .u64 (ww3 x), .int .u64 (ww2 x), .int .u64 (ww1 x), .int .u64 (ww0 x), .int .u64 (ww3 y), .int .u64 (ww2 y), .int .u64 (ww1 y), .int .u64 (ww0 y), .int .u64 (ww3 z), .int .u64 (ww2 z), .int .u64 (ww1 z), .int .u64 (ww0 z)]] := (by with_reducible exact T0.step hB); have tltw2 := (T0.b 0 rfl).lt; have lR0w2 := R0.lt; replace R0 := R0.step hB; skip) | (have T1 : ArgsB w w2 [[.int .u64 (ww3 x), .int .u64 (ww2 x), .int .u64 (ww1 x), .int .u64 (ww0 x), .int .u64 (ww3 y), .int .u64 (ww2 y), .int .u64 (ww1 y), .int .u64 (ww0 y), .int .u64 (ww3 z), .int .u64 (ww2 z), .int .u64 (ww1 z), .int .u64 (ww0 z)]] := (by with_reducible exact T0.drew.step hB); have tltw2 := (T0.b 0 rfl).lt; have lR0w2 := R0.lt; replace R0 := R0.drew.step hB; skip)); clear T0; have T0 := T1; clear T1; clear hB tok2 _t)
      | (go_at_call 55; refine (F3 _).mono ?_; rintro e w3 ⟨s3, o3, n3, c3, d3, rfl, N3, hB⟩; (first | (replace N1 := N1.below hB; replace N2 := N2.below hB; skip) | (replace N1 := N1.drew.below hB; replace N2 := N2.drew.below hB; skip)); (first | (have T1 : ArgsB w w3 [[.int .u64 (ww3 x), .int .u64 (ww2 x), .int .u64 (ww1 x), .int .u64 (ww0 x), .int .u64 (ww3 y), .int .u64 (ww2 y), .int .u64 (ww1 y), .int .u64 (ww0 y), .int .u64 (ww3 z), .int .u64 (ww2 z), .int .u64 (ww1 z), .int .u64 (ww0 z)]] := (by with_reducible exact T0.step hB); have tltw3 := (T0.b 0 rfl).lt; have lR0w3 := R0.lt; replace R0 := R0.step hB; skip) | (have T1 : ArgsB w w3 [[.int .u64 (ww3 x), .int .u64 (ww2 x), .int .u64 (ww1 x), .int .u64 (ww0 x), .int .u64 (ww3 y), .int .u64 (ww2 y), .int .u64 (ww1 y), .int .u64 (ww0 y), .int .u64 (ww3 z), .int .u64 (ww2 z), .int .u64 (ww1 z), .int .u64 (ww0 z)]] := (by with_reducible exact T0.drew.step hB); have tltw3 := (T0.b 0 rfl).lt; have lR0w3 := R0.lt; replace R0 := R0.drew.step hB; skip)); clear T0; have T0 := T1; clear T1; clear hB; have rc0 := R0.c 0 rfl; have rf0 := R0.f 0 rfl; have rc1 := R0.c 1 rfl; have rf1 := R0.f 1 rfl; have rc2 := R0.c 2 rfl; have rf2 := R0.f 2 rfl; have rc3 := R0.c 3 rfl; have rf3 := R0.f 3 rfl; have rc4 := R0.c 4 rfl; have rf4 := R0.f 4 rfl; have rc5 := R0.c 5 rfl; have rf5 := R0.f 5 rfl; have rl := R0.lt))
  all_goals have HB := T0.below
  all_goals have M1 := num_set6 N1 R0 (.bool s1) (.slice o1 n1 c1) (.bool s2) (.slice o2 n2 c2) (.bool s3) (.slice o3 n3 c3)
  all_goals have M2 := num_set6 N2 R0 (.bool s1) (.slice o1 n1 c1) (.bool s2) (.slice o2 n2 c2) (.bool s3) (.slice o3 n3 c3)
  all_goals have M3 := num_set6 N3 R0 (.bool s1) (.slice o1 n1 c1) (.bool s2) (.slice o2 n2 c2) (.bool s3) (.slice o3 n3 c3)
  all_goals clear T0 R0 N1 N2 N3 F1 F2 F3
  all_goals go_wp2
  all_goals refine bodyPost_ret (v := .agg #[.bool s1, .slice o1 n1 c1, .bool s2, .slice o2 n2 c2, .bool s3, .slice o3 n3 c3]) (by simp [results, Tryz.results25, go_sem, rc0, rc1, rc2, rc3, rc4, rc5]) rfl ?_
  all_goals refine ⟨s1, o1, n1, c1, d1, s2, o2, n2, c2, d2, s3, o3, n3, c3, d3, rfl, by first | exact M1 | exact M1.drew, by first | exact M2 | exact M2.drew, by first | exact M3 | exact M3.drew, ?_⟩
  all_goals repeat' (refine Below.setCell ?_ (by simp; try omega) _)
  all_goals first | exact HB | exact HB.drew
end Go.Proofs.YtpmnmlhfaoajdaaGreat

/- Points: the model's word on whether one is right. -/
namespace Go.Proofs.YtpmnmlhfaoajdaaGreat
open Go.RowKit
theorem l3_cells0 {s1 s2 s3 : Bool} {o1 o2 o3 : Option Addr} {n1 n2 n3 c1 c2 c3 : Nat} {W : World} {gx : Nat} (X0 : Blk W gx [.bool s1, .slice o1 n1 c1, .bool s2, .slice o2 n2 c2, .bool s3, .slice o3 n3 c3]) : (fun w' => w'.cell? ⟨gx, 0, none⟩ = some (.bool s1) ∧ w'.cell? ⟨gx, 1, none⟩ = some (.slice o1 n1 c1) ∧ w'.cell? ⟨gx, 2, none⟩ = some (.bool s2) ∧ w'.cell? ⟨gx, 3, none⟩ = some (.slice o2 n2 c2) ∧ w'.cell? ⟨gx, 4, none⟩ = some (.bool s3) ∧ w'.cell? ⟨gx, 5, none⟩ = some (.slice o3 n3 c3)) W := ⟨X0.c 0 rfl, X0.c 1 rfl, X0.c 2 rfl, X0.c 3 rfl, X0.c 4 rfl, X0.c 5 rfl⟩
set_option maxRecDepth 100000 in
set_option maxHeartbeats 8000000 in
theorem specPointOk_det (x y z : Int) (hx : told x = true) (hy : told y = true) (hz : told z = true) (w : World) : Calls Tryz.prog 23 #[PV x y z] w (VP (.bool (ptB x y z)) w) := by
  have HB := (Below.refl _ w).alloc (Nat.le_refl _) (.cells #[.int .u64 (ww3 x), .int .u64 (ww2 x), .int .u64 (ww1 x), .int .u64 (ww0 x), .int .u64 (ww3 y), .int .u64 (ww2 y), .int .u64 (ww1 y), .int .u64 (ww0 y), .int .u64 (ww3 z), .int .u64 (ww2 z), .int .u64 (ww1 z), .int .u64 (ww0 z)] 35)
  have OF := l3Of_det x y z hx hy hz
  clear hx hy hz
  go_enter Tryz.func23, Tryz.ntmps23
  go_wp2_with fail
  refine (OF _).mono ?_
  rintro e w1 ⟨s1, o1, n1, c1, d1, s2, o2, n2, c2, d2, s3, o3, n3, c3, d3, rfl, N1, N2, N3, hB⟩
  replace HB := HB.trans (hB.mono HB.size)
  clear hB OF
  go_upto_region 2 with fail
  have X0 : Blk (w1.alloc (.cells #[.bool s1, .slice o1 n1 c1, .bool s2, .slice o2 n2 c2, .bool s3, .slice o3 n3 c3] 58)) w1.heap.size [.bool s1, .slice o1 n1 c1, .bool s2, .slice o2 n2 c2, .bool s3, .slice o3 n3 c3] := Blk.new w1 _ _ rfl
  have hb0 := (Below.refl w1.heap.size w1).alloc (Nat.le_refl _) (.cells #[.bool s1, .slice o1 n1 c1, .bool s2, .slice o2 n2 c2, .bool s3, .slice o3 n3 c3] 58)
  replace N1 := N1.below hb0
  replace N2 := N2.below hb0
  replace N3 := N3.below hb0
  replace HB := HB.alloc HB.size (.cells #[.bool s1, .slice o1 n1 c1, .bool s2, .slice o2 n2 c2, .bool s3, .slice o3 n3 c3] 58)
  clear hb0
  generalize w1.alloc (.cells #[.bool s1, .slice o1 n1 c1, .bool s2, .slice o2 n2 c2, .bool s3, .slice o3 n3 c3] 58) = W at *
  generalize w1.heap.size = gx at *
  replace N1 := N1.drew
  replace N2 := N2.drew
  replace N3 := N3.drew
  by_cases hs : 0 < z
  · by_cases h1 : (small x && small y && small z) = true
    · have HR : Hid (ptB x y z = (cmpI (Int.gcd (Int.gcd x y) z : Int) 1 == 0)) := by
        show _ = _
        unfold ptB
        rw [h1, Bool.eq_iff_iff]
        simp only [hs, decide_true, Bool.true_and, decide_eq_true_eq, beq_iff_eq]
        unfold cmpI
        split
        · constructor
          · intro h; omega
          · intro h; exact absurd h (by decide)
        · split
          · constructor
            · intro h; omega
            · intro h; exact absurd h (by decide)
          · exact ⟨fun _ => rfl, fun _ => by omega⟩
      obtain ⟨q, hq⟩ : ∃ q, cmpI (Int.gcd (Int.gcd x y) z : Int) 1 = q := ⟨_, rfl⟩
      rw [hq] at HR
      have tok1 : True := trivial
      go_region_held3 (fun w' => w'.cell? ⟨gx, 0, none⟩ = some (.bool s1) ∧ w'.cell? ⟨gx, 1, none⟩ = some (.slice o1 n1 c1) ∧ w'.cell? ⟨gx, 2, none⟩ = some (.bool s2) ∧ w'.cell? ⟨gx, 3, none⟩ = some (.slice o2 n2 c2) ∧ w'.cell? ⟨gx, 4, none⟩ = some (.bool s3) ∧ w'.cell? ⟨gx, 5, none⟩ = some (.slice o3 n3 c3)) (first | (with_reducible exact l3_cells0 X0) | (with_reducible exact l3_cells0 X0.drew))
        (first
          | (go_at_call 49; refine (sign_any s3 o3 n3 c3 d3 _ 8 _ N3).mono ?_; rintro e w2 ⟨rfl, hB⟩; rw [cmpI_gt hs]; (first | (replace X0 := X0.step hB; replace HB := HB.trans (hB.mono HB.size)) | (replace X0 := X0.drew.step hB; replace HB := HB.drew.trans (hB.mono HB.size))); replace N1 := N1.below hB; replace N2 := N2.below hB; replace N3 := N3.below hB; clear hB)
          | (go_at_call 50; refine (l3Small_any s1 o1 n1 c1 d1 s2 o2 n2 c2 d2 s3 o3 n3 c3 d3 x y z 8 (by omega) _ N1 N2 N3).mono ?_; rintro e w3 ⟨rfl, hB⟩; rw [h1]; (first | (replace X0 := X0.step hB; replace HB := HB.trans (hB.mono HB.size)) | (replace X0 := X0.drew.step hB; replace HB := HB.drew.trans (hB.mono HB.size))); replace N1 := N1.below hB; replace N2 := N2.below hB; replace N3 := N3.below hB; clear hB)
          | (go_at_call 52; have _t := tok1; refine (gcd_any s1 s2 o1 o2 n1 n2 c1 c2 8 d1 d2 _ _ _ N1 N2 (by omega)).mono ?_; rintro e w4 ⟨s4, o4, n4, c4, d4, rfl, N4, hB⟩; (first | (replace X0 := X0.step hB; replace HB := HB.trans (hB.mono HB.size)) | (replace X0 := X0.drew.step hB; replace HB := HB.drew.trans (hB.mono HB.size))); replace N3 := N3.below hB; clear hB; clear tok1 _t N1 N2)
          | (go_at_call 52; refine (gcd_any s4 s3 o4 o3 n4 n3 c4 c3 8 d4 d3 _ _ _ N4 N3 (by omega)).mono ?_; rintro e w5 ⟨s5, o5, n5, c5, d5, rfl, N5, hB⟩; (first | (replace X0 := X0.step hB; replace HB := HB.trans (hB.mono HB.size)) | (replace X0 := X0.drew.step hB; replace HB := HB.drew.trans (hB.mono HB.size))); clear hB; clear N3 N4)
          | (go_at_call 53; refine (int_any 1 _ (by decide) (by decide)).mono ?_; rintro e w6 ⟨s6, o6, n6, c6, d6, rfl, N6, hB⟩; (first | (replace X0 := X0.step hB; replace HB := HB.trans (hB.mono HB.size)) | (replace X0 := X0.drew.step hB; replace HB := HB.drew.trans (hB.mono HB.size))); replace N5 := N5.below hB; clear hB)
          | (go_at_call 51; refine (cmp_any s5 s6 o5 o6 n5 n6 c5 c6 8 d5 d6 _ _ _ N5 (num_more N6 (by decide)) (by omega)).mono ?_; rintro e w7 ⟨rfl, hB⟩; rw [hq]; (first | (replace X0 := X0.step hB; replace HB := HB.trans (hB.mono HB.size)) | (replace X0 := X0.drew.step hB; replace HB := HB.drew.trans (hB.mono HB.size))); clear hB))
      all_goals clear hq hs h1 X0
      all_goals go_wp2
      all_goals go_ret
      all_goals exact ⟨by rw [HR.out]; simp, by first | exact HB | exact HB.drew⟩
    · replace h1 := Bool.eq_false_iff.2 h1
      have HR : Hid (ptB x y z = false) := by show _ = _; unfold ptB; rw [h1]; simp
      have q0 := X0.c 0 rfl; have q1 := X0.c 1 rfl; have q2 := X0.c 2 rfl; have q3 := X0.c 3 rfl; have q4 := X0.c 4 rfl; have q5 := X0.c 5 rfl
      refine wp_region_any (by kernel_rfl) ?_
      try (change wpAny _ _ _ _ _ _ _ (World.drew _))
      refine wpAny_ready (rs := [0]) (by kernel_rfl) (by simp) ?_
      refine AllReady.cons rfl (fun K hK => ?_) AllReady.nil
      go_simp
      refine hK _ _ ?_
      clear hK K
      refine wpAny_ready (rs := [1]) (by kernel_rfl) (by simp) ?_
      refine AllReady.cons rfl (fun K hK => ?_) AllReady.nil
      go_simp
      refine hK _ _ ?_
      clear hK K
      refine wpAny_ready (rs := [2]) (by kernel_rfl) (by simp) ?_
      refine AllReady.cons rfl (fun K hK => ?_) AllReady.nil
      go_simp
      go_wp2_with (go_at_call 49; refine (sign_any s3 o3 n3 c3 d3 _ 8 _ N3).mono ?_; rintro e w2 ⟨rfl, hB⟩; rw [cmpI_gt hs]; (first | (replace X0 := X0.step hB; replace HB := HB.trans (hB.mono HB.size)) | (replace X0 := X0.drew.step hB; replace HB := HB.drew.trans (hB.mono HB.size))); replace N1 := N1.below hB; replace N2 := N2.below hB; replace N3 := N3.below hB; clear hB; clear q0 q1 q2 q3 q4 q5; have q0 := X0.c 0 rfl; have q1 := X0.c 1 rfl; have q2 := X0.c 2 rfl; have q3 := X0.c 3 rfl; have q4 := X0.c 4 rfl; have q5 := X0.c 5 rfl)
      (try (refine hK _ _ ?_; clear hK K))
      refine wpAny_ready (rs := [3]) (by kernel_rfl) (by simp) ?_
      refine AllReady.cons rfl (fun K hK => ?_) AllReady.nil
      go_simp
      refine hK _ _ ?_
      clear hK K
      refine wpAny_ready (rs := [4]) (by kernel_rfl) (by simp) ?_
      refine AllReady.cons rfl (fun K hK => ?_) AllReady.nil
      go_simp
      refine hK _ _ ?_
      clear hK K
      refine wpAny_ready (rs := [5]) (by kernel_rfl) (by simp) ?_
      refine AllReady.cons rfl (fun K hK => ?_) AllReady.nil
      go_simp
      refine hK _ _ ?_
      clear hK K
      refine wpAny_ready (rs := [6]) (by kernel_rfl) (by simp) ?_
      refine AllReady.cons rfl (fun K hK => ?_) AllReady.nil
      go_simp
      go_wp2_with (go_at_call 50; refine (l3Small_any s1 o1 n1 c1 d1 s2 o2 n2 c2 d2 s3 o3 n3 c3 d3 x y z 8 (by omega) _ N1 N2 N3).mono ?_; rintro e w3 ⟨rfl, hB⟩; rw [h1]; (first | (replace X0 := X0.step hB; replace HB := HB.trans (hB.mono HB.size)) | (replace X0 := X0.drew.step hB; replace HB := HB.drew.trans (hB.mono HB.size))); clear hB; clear q0 q1 q2 q3 q4 q5 X0 N1 N2 N3)
      (try (refine hK _ _ ?_; clear hK K))
      refine wpAny_ready (rs := [7]) (by kernel_rfl) (by simp) ?_
      refine AllReady.cons rfl (fun K hK => ?_) AllReady.nil
      go_simp
      refine hK _ _ ?_
      clear hK K
      refine wpAny_ready (rs := [8]) (by kernel_rfl) (by simp) ?_
      refine AllReady.cons rfl (fun K hK => ?_) AllReady.nil
      go_simp
      refine hK _ _ ?_
      clear hK K
      refine wpAny_take (i := 9) (v := undef) rfl (by kernel_rfl) (by kernel_rfl) (by kernel_rfl) (fun _ _ _ h => h) (Or.inr ⟨by kernel_rfl, rfl⟩) ?_
      refine wpAny_take (i := 10) (v := undef) rfl (by kernel_rfl) (by kernel_rfl) (by kernel_rfl) (fun _ _ _ h => h) (Or.inr ⟨by kernel_rfl, rfl⟩) ?_
      refine wpAny_take (i := 11) (v := undef) rfl (by kernel_rfl) (by kernel_rfl) (by kernel_rfl) (fun _ _ _ h => h) (Or.inr ⟨by kernel_rfl, rfl⟩) ?_
      refine wpAny_take (i := 12) (v := undef) rfl (by kernel_rfl) (by kernel_rfl) (by kernel_rfl) (fun _ _ _ h => h) (Or.inr ⟨by kernel_rfl, rfl⟩) ?_
      refine wpAny_take (i := 13) (v := undef) rfl (by kernel_rfl) (by kernel_rfl) (by kernel_rfl) (fun _ _ _ h => h) (Or.inr ⟨by kernel_rfl, rfl⟩) ?_
      refine wpAny_take (i := 14) (v := undef) rfl (by kernel_rfl) (by kernel_rfl) (by kernel_rfl) (fun _ _ _ h => h) (Or.inr ⟨by kernel_rfl, rfl⟩) ?_
      refine wpAny_take (i := 15) (v := undef) rfl (by kernel_rfl) (by kernel_rfl) (by kernel_rfl) (fun _ _ _ h => h) (Or.inr ⟨by kernel_rfl, rfl⟩) ?_
      refine wpAny_take (i := 16) (v := undef) rfl (by kernel_rfl) (by kernel_rfl) (by kernel_rfl) (fun _ _ _ h => h) (Or.inr ⟨by kernel_rfl, rfl⟩) ?_
      refine wpAny_take (i := 17) (v := undef) rfl (by kernel_rfl) (by kernel_rfl) (by kernel_rfl) (fun _ _ _ h => h) (Or.inr ⟨by kernel_rfl, rfl⟩) ?_
      refine wpAny_take (i := 18) (v := undef) rfl (by kernel_rfl) (by kernel_rfl) (by kernel_rfl) (fun _ _ _ h => h) (Or.inr ⟨by kernel_rfl, rfl⟩) ?_
      refine wpAny_take (i := 19) (v := undef) rfl (by kernel_rfl) (by kernel_rfl) (by kernel_rfl) (fun _ _ _ h => h) (Or.inr ⟨by kernel_rfl, rfl⟩) ?_
      refine wpAny_ready (rs := [20]) (by kernel_rfl) (by simp) ?_
      refine AllReady.cons rfl (fun K hK => ?_) AllReady.nil
      go_simp
      refine hK _ _ ?_
      clear hK K
      refine wpAny_ready (rs := [21]) (by kernel_rfl) (by simp) ?_
      refine AllReady.cons rfl (fun K hK => ?_) AllReady.nil
      go_simp
      refine hK _ _ ?_
      clear hK K
      refine wpAny_done (by kernel_rfl) ?_ _
      go_wp2
      go_ret
      exact ⟨by rw [HR.out]; rfl, by first | exact HB | exact HB.drew⟩
  · have HR : Hid (ptB x y z = false) := by show _ = _; unfold ptB; simp [hs]
    have hcs : cmpI z 0 = -1 ∨ cmpI z 0 = 0 := by
      rcases Int.lt_trichotomy z 0 with h | h | h
      · exact Or.inl (cmpI_lt h)
      · exact Or.inr (cmpI_eq h)
      · exact absurd h hs
    have q0 := X0.c 0 rfl; have q1 := X0.c 1 rfl; have q2 := X0.c 2 rfl; have q3 := X0.c 3 rfl; have q4 := X0.c 4 rfl; have q5 := X0.c 5 rfl
    obtain ⟨q, hq⟩ : ∃ q, cmpI z 0 = q := ⟨_, rfl⟩
    rw [hq] at hcs
    have hd1 : decide (0 < q) = false := by rcases hcs with rfl | rfl <;> rfl
    clear hcs hs
    refine wp_region_any (by kernel_rfl) ?_
    try (change wpAny _ _ _ _ _ _ _ (World.drew _))
    refine wpAny_ready (rs := [0]) (by kernel_rfl) (by simp) ?_
    refine AllReady.cons rfl (fun K hK => ?_) AllReady.nil
    go_simp
    refine hK _ _ ?_
    clear hK K
    refine wpAny_ready (rs := [1]) (by kernel_rfl) (by simp) ?_
    refine AllReady.cons rfl (fun K hK => ?_) AllReady.nil
    go_simp
    refine hK _ _ ?_
    clear hK K
    refine wpAny_ready (rs := [2]) (by kernel_rfl) (by simp) ?_
    refine AllReady.cons rfl (fun K hK => ?_) AllReady.nil
    go_simp
    go_wp2_with (go_at_call 49; refine (sign_any s3 o3 n3 c3 d3 _ 8 _ N3).mono ?_; rintro e w2 ⟨rfl, hB⟩; rw [hq]; (first | (replace X0 := X0.step hB; replace HB := HB.trans (hB.mono HB.size)) | (replace X0 := X0.drew.step hB; replace HB := HB.drew.trans (hB.mono HB.size))); clear hB; clear q0 q1 q2 q3 q4 q5 X0 N1 N2 N3)
    (try (refine hK _ _ ?_; clear hK K))
    refine wpAny_ready (rs := [3]) (by kernel_rfl) (by simp) ?_
    refine AllReady.cons rfl (fun K hK => ?_) AllReady.nil
    go_simp
    refine hK _ _ ?_
    clear hK K
    refine wpAny_ready (rs := [4]) (by kernel_rfl) (by simp) ?_
    refine AllReady.cons rfl (fun K hK => ?_) AllReady.nil
    go_simp
    refine hK _ _ ?_
    clear hK K
    refine wpAny_take (i := 5) (v := undef) rfl (by kernel_rfl) (by kernel_rfl) (by kernel_rfl) (fun _ _ _ h => h) (Or.inr ⟨by kernel_rfl, rfl⟩) ?_
    refine wpAny_take (i := 6) (v := undef) rfl (by kernel_rfl) (by kernel_rfl) (by kernel_rfl) (fun _ _ _ h => h) (Or.inr ⟨by kernel_rfl, rfl⟩) ?_
    refine wpAny_ready (rs := [7]) (by kernel_rfl) (by simp) ?_
    refine AllReady.cons rfl (fun K hK => ?_) AllReady.nil
    go_simp
    refine hK _ _ ?_
    clear hK K
    refine wpAny_ready (rs := [8]) (by kernel_rfl) (by simp) ?_
    refine AllReady.cons rfl (fun K hK => ?_) AllReady.nil
    go_simp
    refine hK _ _ ?_
    clear hK K
    refine wpAny_take (i := 9) (v := undef) rfl (by kernel_rfl) (by kernel_rfl) (by kernel_rfl) (fun _ _ _ h => h) (Or.inr ⟨by kernel_rfl, rfl⟩) ?_
    refine wpAny_take (i := 10) (v := undef) rfl (by kernel_rfl) (by kernel_rfl) (by kernel_rfl) (fun _ _ _ h => h) (Or.inr ⟨by kernel_rfl, rfl⟩) ?_
    refine wpAny_take (i := 11) (v := undef) rfl (by kernel_rfl) (by kernel_rfl) (by kernel_rfl) (fun _ _ _ h => h) (Or.inr ⟨by kernel_rfl, rfl⟩) ?_
    refine wpAny_take (i := 12) (v := undef) rfl (by kernel_rfl) (by kernel_rfl) (by kernel_rfl) (fun _ _ _ h => h) (Or.inr ⟨by kernel_rfl, rfl⟩) ?_
    refine wpAny_take (i := 13) (v := undef) rfl (by kernel_rfl) (by kernel_rfl) (by kernel_rfl) (fun _ _ _ h => h) (Or.inr ⟨by kernel_rfl, rfl⟩) ?_
    refine wpAny_take (i := 14) (v := undef) rfl (by kernel_rfl) (by kernel_rfl) (by kernel_rfl) (fun _ _ _ h => h) (Or.inr ⟨by kernel_rfl, rfl⟩) ?_
    refine wpAny_take (i := 15) (v := undef) rfl (by kernel_rfl) (by kernel_rfl) (by kernel_rfl) (fun _ _ _ h => h) (Or.inr ⟨by kernel_rfl, rfl⟩) ?_
    refine wpAny_take (i := 16) (v := undef) rfl (by kernel_rfl) (by kernel_rfl) (by kernel_rfl) (fun _ _ _ h => h) (Or.inr ⟨by kernel_rfl, rfl⟩) ?_
    refine wpAny_take (i := 17) (v := undef) rfl (by kernel_rfl) (by kernel_rfl) (by kernel_rfl) (fun _ _ _ h => h) (Or.inr ⟨by kernel_rfl, rfl⟩) ?_
    refine wpAny_take (i := 18) (v := undef) rfl (by kernel_rfl) (by kernel_rfl) (by kernel_rfl) (fun _ _ _ h => h) (Or.inr ⟨by kernel_rfl, rfl⟩) ?_
    refine wpAny_take (i := 19) (v := undef) rfl (by kernel_rfl) (by kernel_rfl) (by kernel_rfl) (fun _ _ _ h => h) (Or.inr ⟨by kernel_rfl, rfl⟩) ?_
    refine wpAny_ready (rs := [20]) (by kernel_rfl) (by simp) ?_
    refine AllReady.cons rfl (fun K hK => ?_) AllReady.nil
    go_simp
    refine hK _ _ ?_
    clear hK K
    refine wpAny_ready (rs := [21]) (by kernel_rfl) (by simp) ?_
    refine AllReady.cons rfl (fun K hK => ?_) AllReady.nil
    go_simp
    refine hK _ _ ?_
    clear hK K
    refine wpAny_done (by kernel_rfl) ?_ _
    go_wp2
    go_ret
    exact ⟨by rw [HR.out]; rfl, by first | exact HB | exact HB.drew⟩
end Go.Proofs.YtpmnmlhfaoajdaaGreat

/- Points in their order: the program's walks. -/
namespace Go.Proofs.YtpmnmlhfaoajdaaGreat
open Go.RowKit
end Go.Proofs.YtpmnmlhfaoajdaaGreat

/- Points in their order: the program's walks. -/
namespace Go.Proofs.YtpmnmlhfaoajdaaGreat
open Go.RowKit
theorem sm_lt {a : Int} (h : small a = true) : (a.natAbs : Int) ≤ 1208925819614629174706176 := by
  unfold small at h
  rw [decide_eq_true_iff] at h
  omega
theorem abs_mul {a b : Int} {m n : Nat} (ha : a.natAbs ≤ m) (hb : b.natAbs ≤ n) : (a * b).natAbs ≤ m * n := by
  rw [Int.natAbs_mul]
  exact Nat.mul_le_mul ha hb
theorem sm_prod {a b : Int} (ha : small a = true) (hb : small b = true) : (a * b).natAbs ≤ 1461501637330902918203684832716283019655932542976 := by
  have := abs_mul (show a.natAbs ≤ 1208925819614629174706176 by have := sm_lt ha; omega) (show b.natAbs ≤ 1208925819614629174706176 by have := sm_lt hb; omega)
  omega
theorem lr_abs {a : Int} (h : a.natAbs ≤ 3273390607896141870013189696827599152216642046043064789483291368096133796404674554883270092325904157150886684127560071009217256545885393053328527589376) : LR a := by
  unfold LR
  omega
theorem told_of {a : Int} (h : a.natAbs ≤ 1809251394333065553493296640760748560207343510400633813116524750123642650624) : told a = true := by
  unfold told
  apply decide_eq_true
  omega
theorem cmp_sub (a b : Int) : cmpI (a - b) 0 = cmpI a b := by
  rcases Int.lt_trichotomy a b with h | h | h
  · rw [cmpI_lt h, cmpI_lt (by omega)]
  · rw [cmpI_eq h, cmpI_eq (by omega)]
  · rw [cmpI_gt h, cmpI_gt (by omega)]
/-- The minor of four parts of right points. -/
theorem minor_sm (a b c d : Int) (ha : small a = true) (hb : small b = true) (hc : small c = true) (hd : small d = true) (w : World) : Calls Tryz.prog 97 #[W4 a, W4 b, W4 c, W4 d] w (VP (W4 (a * d - b * c)) w) := by
  have h1 := sm_prod ha hd
  have h2 := sm_prod hb hc
  exact minor_det a b c d (told_small ha) (told_small hb) (told_small hc) (told_small hd) (lr_abs (by omega)) (lr_abs (by omega)) (told_of (by omega)) w
theorem minor_abs {a b c d : Int} (ha : small a = true) (hb : small b = true) (hc : small c = true) (hd : small d = true) : (a * d - b * c).natAbs ≤ 2923003274661805836407369665432566039311865085952 := by
  have h1 := sm_prod ha hd
  have h2 := sm_prod hb hc
  omega
set_option maxRecDepth 100000 in
set_option maxHeartbeats 2000000 in
theorem byX_det (x y z u v t : Int) (sx : small x = true) (sz : small z = true) (su : small u = true) (st : small t = true) (w : World) : Calls Tryz.prog 62 #[PV x y z, PV u v t] w (VP (.int .i64 (cmpI (x * t) (u * z))) w) := by
  have T0 : ArgsB w ((w.alloc (.cells #[.int .u64 (ww3 x), .int .u64 (ww2 x), .int .u64 (ww1 x), .int .u64 (ww0 x), .int .u64 (ww3 y), .int .u64 (ww2 y), .int .u64 (ww1 y), .int .u64 (ww0 y), .int .u64 (ww3 z), .int .u64 (ww2 z), .int .u64 (ww1 z), .int .u64 (ww0 z)] 35)).alloc (.cells #[.int .u64 (ww3 u), .int .u64 (ww2 u), .int .u64 (ww1 u), .int .u64 (ww0 u), .int .u64 (ww3 v), .int .u64 (ww2 v), .int .u64 (ww1 v), .int .u64 (ww0 v), .int .u64 (ww3 t), .int .u64 (ww2 t), .int .u64 (ww1 t), .int .u64 (ww0 t)] 35)) [[.int .u64 (ww3 x), .int .u64 (ww2 x), .int .u64 (ww1 x), .int .u64 (ww0 x), .int .u64 (ww3 y), .int .u64 (ww2 y), .int .u64 (ww1 y), .int .u64 (ww0 y), .int .u64 (ww3 z), .int .u64 (ww2 z), .int .u64 (ww1 z), .int .u64 (ww0 z)], [.int .u64 (ww3 u), .int .u64 (ww2 u), .int .u64 (ww1 u), .int .u64 (ww0 u), .int .u64 (ww3 v), .int .u64 (ww2 v), .int .u64 (ww1 v), .int .u64 (ww0 v), .int .u64 (ww3 t), .int .u64 (ww2 t), .int .u64 (ww1 t), .int .u64 (ww0 t)]] := ar2 _ _ _ _ w
  have C1 := minor_sm x z u t sx sz su st
  have C2 := sign_det (x * t - z * u) (told_of (by have := minor_abs sx sz su st; omega))
  rw [cmp_sub, Int.mul_comm z u] at C2
  rw [Int.mul_comm z u] at C1
  clear sx su sz st
  go_enter Tryz.func62, Tryz.ntmps62
  go_wp2_with fail
  refine (C1 _).mono ?_
  rintro e w1 ⟨rfl, hB⟩
  replace T0 := T0.step hB
  clear hB
  go_wp2_with fail
  refine (C2 _).mono ?_
  rintro e w2 ⟨rfl, hB⟩
  have HB := (T0.step hB).below
  clear hB T0 C1 C2
  go_wp2
  go_ret
  exact ⟨rfl, HB⟩
set_option maxRecDepth 100000 in
set_option maxHeartbeats 2000000 in
theorem byY_det (x y z u v t : Int) (sy : small y = true) (sz : small z = true) (sv : small v = true) (st : small t = true) (w : World) : Calls Tryz.prog 64 #[PV x y z, PV u v t] w (VP (.int .i64 (cmpI (y * t) (v * z))) w) := by
  have T0 : ArgsB w ((w.alloc (.cells #[.int .u64 (ww3 x), .int .u64 (ww2 x), .int .u64 (ww1 x), .int .u64 (ww0 x), .int .u64 (ww3 y), .int .u64 (ww2 y), .int .u64 (ww1 y), .int .u64 (ww0 y), .int .u64 (ww3 z), .int .u64 (ww2 z), .int .u64 (ww1 z), .int .u64 (ww0 z)] 35)).alloc (.cells #[.int .u64 (ww3 u), .int .u64 (ww2 u), .int .u64 (ww1 u), .int .u64 (ww0 u), .int .u64 (ww3 v), .int .u64 (ww2 v), .int .u64 (ww1 v), .int .u64 (ww0 v), .int .u64 (ww3 t), .int .u64 (ww2 t), .int .u64 (ww1 t), .int .u64 (ww0 t)] 35)) [[.int .u64 (ww3 x), .int .u64 (ww2 x), .int .u64 (ww1 x), .int .u64 (ww0 x), .int .u64 (ww3 y), .int .u64 (ww2 y), .int .u64 (ww1 y), .int .u64 (ww0 y), .int .u64 (ww3 z), .int .u64 (ww2 z), .int .u64 (ww1 z), .int .u64 (ww0 z)], [.int .u64 (ww3 u), .int .u64 (ww2 u), .int .u64 (ww1 u), .int .u64 (ww0 u), .int .u64 (ww3 v), .int .u64 (ww2 v), .int .u64 (ww1 v), .int .u64 (ww0 v), .int .u64 (ww3 t), .int .u64 (ww2 t), .int .u64 (ww1 t), .int .u64 (ww0 t)]] := ar2 _ _ _ _ w
  have C1 := minor_sm y z v t sy sz sv st
  have C2 := sign_det (y * t - z * v) (told_of (by have := minor_abs sy sz sv st; omega))
  rw [cmp_sub, Int.mul_comm z v] at C2
  rw [Int.mul_comm z v] at C1
  clear sy sv sz st
  go_enter Tryz.func64, Tryz.ntmps64
  go_wp2_with fail
  refine (C1 _).mono ?_
  rintro e w1 ⟨rfl, hB⟩
  replace T0 := T0.step hB
  clear hB
  go_wp2_with fail
  refine (C2 _).mono ?_
  rintro e w2 ⟨rfl, hB⟩
  have HB := (T0.step hB).below
  clear hB T0 C1 C2
  go_wp2
  go_ret
  exact ⟨rfl, HB⟩
/-- The order of two points by their parts. -/
def ordI (x y z u v t : Int) : Int := if cmpI (x * t) (u * z) = 0 then cmpI (y * t) (v * z) else cmpI (x * t) (u * z)
theorem ptB_small {x y z : Int} (h : ptB x y z = true) : 0 < z ∧ small x = true ∧ small y = true ∧ small z = true := by
  unfold ptB at h
  simp only [Bool.and_eq_true, decide_eq_true_eq] at h
  exact ⟨h.1.1, h.1.2.1.1, h.1.2.1.2, h.1.2.2⟩
end Go.Proofs.YtpmnmlhfaoajdaaGreat
