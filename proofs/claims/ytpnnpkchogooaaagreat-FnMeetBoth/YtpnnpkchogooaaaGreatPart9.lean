/- Part 9 of the walks that the proof leans on. -/
import Derived.Test.YtpnnpkchogooaaaGreatPart8
import Derived.Test.YtpnnpkchogooaaaGreatPart4
import Derived.Test.YtpnnpkchogooaaaGreatPart2
import Derived.Deep.RegionHeld3
import Derived.Deep.DeepCutAuto
import Derived.Deep.QuietTactic
import Derived.BigQuiet
import Derived.Test.YtpnnpkchogooaaaGreatPart6
import Derived.Test.YtpnnpkchogooaaaGreatPart7
import Derived.Deep.RegionWith
set_option maxRecDepth 100000
set_option maxHeartbeats 8000000
namespace Go.Proofs.YtpnnpkchogooaaaGreat
open Go.RowKit
theorem Blk.set12 {W : World} {vs : List Value} {v0 v1 v2 v3 v4 v5 v6 v7 v8 v9 v10 v11 : Value} {g g' : Nat} (G : Blk W g' vs) (hg : g' ≠ g) : Blk ((((((((((((W.setCell ⟨g, 0, none⟩ v0).setCell ⟨g, 1, none⟩ v1).setCell ⟨g, 2, none⟩ v2).setCell ⟨g, 3, none⟩ v3).setCell ⟨g, 4, none⟩ v4).setCell ⟨g, 5, none⟩ v5).setCell ⟨g, 6, none⟩ v6).setCell ⟨g, 7, none⟩ v7).setCell ⟨g, 8, none⟩ v8).setCell ⟨g, 9, none⟩ v9).setCell ⟨g, 10, none⟩ v10).setCell ⟨g, 11, none⟩ v11) g' vs :=
 (((((((((((G.setO hg v0).setO hg v1).setO hg v2).setO hg v3).setO hg v4).setO hg v5).setO hg v6).setO hg v7).setO hg v8).setO hg v9).setO hg v10).setO hg v11
theorem Blk.stored12 {W : World} {g : Nat} {z0 z1 z2 z3 z4 z5 z6 z7 z8 z9 z10 z11 : Value} (G : Blk W g [z0, z1, z2, z3, z4, z5, z6, z7, z8, z9, z10, z11]) (v0 v1 v2 v3 v4 v5 v6 v7 v8 v9 v10 v11 : Value) : Blk ((((((((((((W.setCell ⟨g, 0, none⟩ v0).setCell ⟨g, 1, none⟩ v1).setCell ⟨g, 2, none⟩ v2).setCell ⟨g, 3, none⟩ v3).setCell ⟨g, 4, none⟩ v4).setCell ⟨g, 5, none⟩ v5).setCell ⟨g, 6, none⟩ v6).setCell ⟨g, 7, none⟩ v7).setCell ⟨g, 8, none⟩ v8).setCell ⟨g, 9, none⟩ v9).setCell ⟨g, 10, none⟩ v10).setCell ⟨g, 11, none⟩ v11) g [v0, v1, v2, v3, v4, v5, v6, v7, v8, v9, v10, v11] :=
 (((((((((((G.setI 0 (by simp) v0).setI 1 (by simp) v1).setI 2 (by simp) v2).setI 3 (by simp) v3).setI 4 (by simp) v4).setI 5 (by simp) v5).setI 6 (by simp) v6).setI 7 (by simp) v7).setI 8 (by simp) v8).setI 9 (by simp) v9).setI 10 (by simp) v10).setI 11 (by simp) v11
theorem Below.set12 {B g : Nat} {w W : World} {v0 v1 v2 v3 v4 v5 v6 v7 v8 v9 v10 v11 : Value} (hg : B ≤ g) (h : Below B w W) : Below B w ((((((((((((W.setCell ⟨g, 0, none⟩ v0).setCell ⟨g, 1, none⟩ v1).setCell ⟨g, 2, none⟩ v2).setCell ⟨g, 3, none⟩ v3).setCell ⟨g, 4, none⟩ v4).setCell ⟨g, 5, none⟩ v5).setCell ⟨g, 6, none⟩ v6).setCell ⟨g, 7, none⟩ v7).setCell ⟨g, 8, none⟩ v8).setCell ⟨g, 9, none⟩ v9).setCell ⟨g, 10, none⟩ v10).setCell ⟨g, 11, none⟩ v11) :=
 (((((((((((h.setCell (p := ⟨g, 0, none⟩) hg _).setCell (p := ⟨g, 1, none⟩) hg _).setCell (p := ⟨g, 2, none⟩) hg _).setCell (p := ⟨g, 3, none⟩) hg _).setCell (p := ⟨g, 4, none⟩) hg _).setCell (p := ⟨g, 5, none⟩) hg _).setCell (p := ⟨g, 6, none⟩) hg _).setCell (p := ⟨g, 7, none⟩) hg _).setCell (p := ⟨g, 8, none⟩) hg _).setCell (p := ⟨g, 9, none⟩) hg _).setCell (p := ⟨g, 10, none⟩) hg _).setCell (p := ⟨g, 11, none⟩) hg _
theorem en_cells {a b c d : Int} {w W : World} (T0 : ArgsB w W [[.int .i64 a, .int .i64 b, .int .i64 c, .int .i64 d], [.int .u64 0, .int .u64 0, .int .u64 0, .int .u64 0, .int .u64 0, .int .u64 0, .int .u64 0, .int .u64 0, .int .u64 0, .int .u64 0, .int .u64 0, .int .u64 0], [.int .u64 0, .int .u64 0, .int .u64 0, .int .u64 0, .int .u64 0, .int .u64 0, .int .u64 0, .int .u64 0, .int .u64 0, .int .u64 0, .int .u64 0, .int .u64 0]]) : (fun w' => w'.cell? ⟨w.heap.size, 0, none⟩ = some (.int .i64 a) ∧ w'.cell? ⟨w.heap.size, 1, none⟩ = some (.int .i64 b) ∧ w'.cell? ⟨w.heap.size, 2, none⟩ = some (.int .i64 c) ∧ w'.cell? ⟨w.heap.size, 3, none⟩ = some (.int .i64 d)) W := ⟨(T0.b 0 rfl).c 0 rfl, (T0.b 0 rfl).c 1 rfl, (T0.b 0 rfl).c 2 rfl, (T0.b 0 rfl).c 3 rfl⟩
theorem en_cells1 {a b c d : Int} {w W : World} {v0 v1 v2 v3 v4 v5 v6 v7 v8 v9 v10 v11 : Value} (T0 : ArgsB w W [[.int .i64 a, .int .i64 b, .int .i64 c, .int .i64 d], [.int .u64 0, .int .u64 0, .int .u64 0, .int .u64 0, .int .u64 0, .int .u64 0, .int .u64 0, .int .u64 0, .int .u64 0, .int .u64 0, .int .u64 0, .int .u64 0], [.int .u64 0, .int .u64 0, .int .u64 0, .int .u64 0, .int .u64 0, .int .u64 0, .int .u64 0, .int .u64 0, .int .u64 0, .int .u64 0, .int .u64 0, .int .u64 0]]) : (fun w' => w'.cell? ⟨w.heap.size, 0, none⟩ = some (.int .i64 a) ∧ w'.cell? ⟨w.heap.size, 1, none⟩ = some (.int .i64 b) ∧ w'.cell? ⟨w.heap.size, 2, none⟩ = some (.int .i64 c) ∧ w'.cell? ⟨w.heap.size, 3, none⟩ = some (.int .i64 d)) ((((((((((((W.setCell ⟨(w.heap.size + 1), 0, none⟩ v0).setCell ⟨(w.heap.size + 1), 1, none⟩ v1).setCell ⟨(w.heap.size + 1), 2, none⟩ v2).setCell ⟨(w.heap.size + 1), 3, none⟩ v3).setCell ⟨(w.heap.size + 1), 4, none⟩ v4).setCell ⟨(w.heap.size + 1), 5, none⟩ v5).setCell ⟨(w.heap.size + 1), 6, none⟩ v6).setCell ⟨(w.heap.size + 1), 7, none⟩ v7).setCell ⟨(w.heap.size + 1), 8, none⟩ v8).setCell ⟨(w.heap.size + 1), 9, none⟩ v9).setCell ⟨(w.heap.size + 1), 10, none⟩ v10).setCell ⟨(w.heap.size + 1), 11, none⟩ v11) := by
 have h : Blk ((((((((((((W.setCell ⟨(w.heap.size + 1), 0, none⟩ v0).setCell ⟨(w.heap.size + 1), 1, none⟩ v1).setCell ⟨(w.heap.size + 1), 2, none⟩ v2).setCell ⟨(w.heap.size + 1), 3, none⟩ v3).setCell ⟨(w.heap.size + 1), 4, none⟩ v4).setCell ⟨(w.heap.size + 1), 5, none⟩ v5).setCell ⟨(w.heap.size + 1), 6, none⟩ v6).setCell ⟨(w.heap.size + 1), 7, none⟩ v7).setCell ⟨(w.heap.size + 1), 8, none⟩ v8).setCell ⟨(w.heap.size + 1), 9, none⟩ v9).setCell ⟨(w.heap.size + 1), 10, none⟩ v10).setCell ⟨(w.heap.size + 1), 11, none⟩ v11) (w.heap.size + 0) _ := (T0.b 0 rfl).set12 (by omega)
 exact ⟨h.c 0 rfl, h.c 1 rfl, h.c 2 rfl, h.c 3 rfl⟩
theorem en_cells12 {a b c d : Int} {w W : World} {u0 u1 u2 u3 u4 u5 u6 u7 u8 u9 u10 u11 v0 v1 v2 v3 v4 v5 v6 v7 v8 v9 v10 v11 : Value} (T0 : ArgsB w W [[.int .i64 a, .int .i64 b, .int .i64 c, .int .i64 d], [.int .u64 0, .int .u64 0, .int .u64 0, .int .u64 0, .int .u64 0, .int .u64 0, .int .u64 0, .int .u64 0, .int .u64 0, .int .u64 0, .int .u64 0, .int .u64 0], [.int .u64 0, .int .u64 0, .int .u64 0, .int .u64 0, .int .u64 0, .int .u64 0, .int .u64 0, .int .u64 0, .int .u64 0, .int .u64 0, .int .u64 0, .int .u64 0]]) : (fun w' => w'.cell? ⟨w.heap.size, 0, none⟩ = some (.int .i64 a) ∧ w'.cell? ⟨w.heap.size, 1, none⟩ = some (.int .i64 b) ∧ w'.cell? ⟨w.heap.size, 2, none⟩ = some (.int .i64 c) ∧ w'.cell? ⟨w.heap.size, 3, none⟩ = some (.int .i64 d)) ((((((((((((((((((((((((W.setCell ⟨(w.heap.size + 1), 0, none⟩ u0).setCell ⟨(w.heap.size + 1), 1, none⟩ u1).setCell ⟨(w.heap.size + 1), 2, none⟩ u2).setCell ⟨(w.heap.size + 1), 3, none⟩ u3).setCell ⟨(w.heap.size + 1), 4, none⟩ u4).setCell ⟨(w.heap.size + 1), 5, none⟩ u5).setCell ⟨(w.heap.size + 1), 6, none⟩ u6).setCell ⟨(w.heap.size + 1), 7, none⟩ u7).setCell ⟨(w.heap.size + 1), 8, none⟩ u8).setCell ⟨(w.heap.size + 1), 9, none⟩ u9).setCell ⟨(w.heap.size + 1), 10, none⟩ u10).setCell ⟨(w.heap.size + 1), 11, none⟩ u11).setCell ⟨(w.heap.size + 1 + 1), 0, none⟩ v0).setCell ⟨(w.heap.size + 1 + 1), 1, none⟩ v1).setCell ⟨(w.heap.size + 1 + 1), 2, none⟩ v2).setCell ⟨(w.heap.size + 1 + 1), 3, none⟩ v3).setCell ⟨(w.heap.size + 1 + 1), 4, none⟩ v4).setCell ⟨(w.heap.size + 1 + 1), 5, none⟩ v5).setCell ⟨(w.heap.size + 1 + 1), 6, none⟩ v6).setCell ⟨(w.heap.size + 1 + 1), 7, none⟩ v7).setCell ⟨(w.heap.size + 1 + 1), 8, none⟩ v8).setCell ⟨(w.heap.size + 1 + 1), 9, none⟩ v9).setCell ⟨(w.heap.size + 1 + 1), 10, none⟩ v10).setCell ⟨(w.heap.size + 1 + 1), 11, none⟩ v11) := by
 have h : Blk ((((((((((((((((((((((((W.setCell ⟨(w.heap.size + 1), 0, none⟩ u0).setCell ⟨(w.heap.size + 1), 1, none⟩ u1).setCell ⟨(w.heap.size + 1), 2, none⟩ u2).setCell ⟨(w.heap.size + 1), 3, none⟩ u3).setCell ⟨(w.heap.size + 1), 4, none⟩ u4).setCell ⟨(w.heap.size + 1), 5, none⟩ u5).setCell ⟨(w.heap.size + 1), 6, none⟩ u6).setCell ⟨(w.heap.size + 1), 7, none⟩ u7).setCell ⟨(w.heap.size + 1), 8, none⟩ u8).setCell ⟨(w.heap.size + 1), 9, none⟩ u9).setCell ⟨(w.heap.size + 1), 10, none⟩ u10).setCell ⟨(w.heap.size + 1), 11, none⟩ u11).setCell ⟨(w.heap.size + 1 + 1), 0, none⟩ v0).setCell ⟨(w.heap.size + 1 + 1), 1, none⟩ v1).setCell ⟨(w.heap.size + 1 + 1), 2, none⟩ v2).setCell ⟨(w.heap.size + 1 + 1), 3, none⟩ v3).setCell ⟨(w.heap.size + 1 + 1), 4, none⟩ v4).setCell ⟨(w.heap.size + 1 + 1), 5, none⟩ v5).setCell ⟨(w.heap.size + 1 + 1), 6, none⟩ v6).setCell ⟨(w.heap.size + 1 + 1), 7, none⟩ v7).setCell ⟨(w.heap.size + 1 + 1), 8, none⟩ v8).setCell ⟨(w.heap.size + 1 + 1), 9, none⟩ v9).setCell ⟨(w.heap.size + 1 + 1), 10, none⟩ v10).setCell ⟨(w.heap.size + 1 + 1), 11, none⟩ v11) (w.heap.size + 0) _ := ((T0.b 0 rfl).set12 (by omega)).set12 (by omega)
 exact ⟨h.c 0 rfl, h.c 1 rfl, h.c 2 rfl, h.c 3 rfl⟩
theorem ends_det (a b c d : Int) (ha0 : -9223372036854775808 ≤ a) (ha1 : a ≤ 9223372036854775807) (hb0 : -9223372036854775808 ≤ b) (hb1 : b ≤ 9223372036854775807) (hc0 : -9223372036854775808 ≤ c) (hc1 : c ≤ 9223372036854775807) (hd0 : -9223372036854775808 ≤ d) (hd1 : d ≤ 9223372036854775807) (w : World) : Calls Tryz.prog 48 #[Sg a b c d] w (VP (.tuple #[PV a b 1, PV c d 1]) w) := by
 have T0 : ArgsB w (((w.alloc (.cells #[.int .i64 a, .int .i64 b, .int .i64 c, .int .i64 d] 27)).alloc (.cells #[.int .u64 0, .int .u64 0, .int .u64 0, .int .u64 0, .int .u64 0, .int .u64 0, .int .u64 0, .int .u64 0, .int .u64 0, .int .u64 0, .int .u64 0, .int .u64 0] 40)).alloc (.cells #[.int .u64 0, .int .u64 0, .int .u64 0, .int .u64 0, .int .u64 0, .int .u64 0, .int .u64 0, .int .u64 0, .int .u64 0, .int .u64 0, .int .u64 0, .int .u64 0] 40)) [[.int .i64 a, .int .i64 b, .int .i64 c, .int .i64 d], [.int .u64 0, .int .u64 0, .int .u64 0, .int .u64 0, .int .u64 0, .int .u64 0, .int .u64 0, .int .u64 0, .int .u64 0, .int .u64 0, .int .u64 0, .int .u64 0], [.int .u64 0, .int .u64 0, .int .u64 0, .int .u64 0, .int .u64 0, .int .u64 0, .int .u64 0, .int .u64 0, .int .u64 0, .int .u64 0, .int .u64 0, .int .u64 0]] := ar3 _ _ _ _ _ _ w
 have C1 := fun w => implPointOf_any a b ha0 ha1 hb0 hb1 w
 have C2 := fun w => implPointOf_any c d hc0 hc1 hd0 hd1 w
 clear ha0 ha1 hb0 hb1 hc0 hc1 hd0 hd1
 have tok1 : True := trivial
 go_enter Tryz.func48, Tryz.ntmps48
 go_upto_region 1 with fail
 generalize (((w.alloc (.cells #[.int .i64 a, .int .i64 b, .int .i64 c, .int .i64 d] 27)).alloc (.cells #[.int .u64 0, .int .u64 0, .int .u64 0, .int .u64 0, .int .u64 0, .int .u64 0, .int .u64 0, .int .u64 0, .int .u64 0, .int .u64 0, .int .u64 0, .int .u64 0] 40)).alloc (.cells #[.int .u64 0, .int .u64 0, .int .u64 0, .int .u64 0, .int .u64 0, .int .u64 0, .int .u64 0, .int .u64 0, .int .u64 0, .int .u64 0, .int .u64 0, .int .u64 0] 40)) = W at *
 go_region_held3 (fun w' => w'.cell? ⟨w.heap.size, 0, none⟩ = some (.int .i64 a) ∧ w'.cell? ⟨w.heap.size, 1, none⟩ = some (.int .i64 b) ∧ w'.cell? ⟨w.heap.size, 2, none⟩ = some (.int .i64 c) ∧ w'.cell? ⟨w.heap.size, 3, none⟩ = some (.int .i64 d)) (first | (with_reducible exact en_cells T0) | (with_reducible exact en_cells T0.drew) | (with_reducible exact en_cells1 T0) | (with_reducible exact en_cells2 T0) | (with_reducible exact en_cells12 T0) | (with_reducible exact en_cells21 T0))
   (first
     | (go_at_call 11; have _t := tok1; refine (C1 _).mono ?_; rintro e v1 ⟨rfl, hB⟩; (first | (have T1 := T0.step hB) | (have T1 := T0.drew.step hB)); clear T0; have T0 := T1; clear T1; clear hB; clear tok1 _t)
     | (go_at_call 11; refine (C2 _).mono ?_; rintro e v2 ⟨rfl, hB⟩; (first | (have T1 := T0.step hB) | (have T1 := T0.drew.step hB)); clear T0; have T0 := T1; clear T1; clear hB; have rc0 := (T0.b 1 rfl).c 0 rfl; have rf0 := (T0.b 1 rfl).f 0 rfl; have rc1 := (T0.b 1 rfl).c 1 rfl; have rf1 := (T0.b 1 rfl).f 1 rfl; have rc2 := (T0.b 1 rfl).c 2 rfl; have rf2 := (T0.b 1 rfl).f 2 rfl; have rc3 := (T0.b 1 rfl).c 3 rfl; have rf3 := (T0.b 1 rfl).f 3 rfl; have rc4 := (T0.b 1 rfl).c 4 rfl; have rf4 := (T0.b 1 rfl).f 4 rfl; have rc5 := (T0.b 1 rfl).c 5 rfl; have rf5 := (T0.b 1 rfl).f 5 rfl; have rc6 := (T0.b 1 rfl).c 6 rfl; have rf6 := (T0.b 1 rfl).f 6 rfl; have rc7 := (T0.b 1 rfl).c 7 rfl; have rf7 := (T0.b 1 rfl).f 7 rfl; have rc8 := (T0.b 1 rfl).c 8 rfl; have rf8 := (T0.b 1 rfl).f 8 rfl; have rc9 := (T0.b 1 rfl).c 9 rfl; have rf9 := (T0.b 1 rfl).f 9 rfl; have rc10 := (T0.b 1 rfl).c 10 rfl; have rf10 := (T0.b 1 rfl).f 10 rfl; have rc11 := (T0.b 1 rfl).c 11 rfl; have rf11 := (T0.b 1 rfl).f 11 rfl; have sc0 := (T0.b 2 rfl).c 0 rfl; have sf0 := (T0.b 2 rfl).f 0 rfl; have sc1 := (T0.b 2 rfl).c 1 rfl; have sf1 := (T0.b 2 rfl).f 1 rfl; have sc2 := (T0.b 2 rfl).c 2 rfl; have sf2 := (T0.b 2 rfl).f 2 rfl; have sc3 := (T0.b 2 rfl).c 3 rfl; have sf3 := (T0.b 2 rfl).f 3 rfl; have sc4 := (T0.b 2 rfl).c 4 rfl; have sf4 := (T0.b 2 rfl).f 4 rfl; have sc5 := (T0.b 2 rfl).c 5 rfl; have sf5 := (T0.b 2 rfl).f 5 rfl; have sc6 := (T0.b 2 rfl).c 6 rfl; have sf6 := (T0.b 2 rfl).f 6 rfl; have sc7 := (T0.b 2 rfl).c 7 rfl; have sf7 := (T0.b 2 rfl).f 7 rfl; have sc8 := (T0.b 2 rfl).c 8 rfl; have sf8 := (T0.b 2 rfl).f 8 rfl; have sc9 := (T0.b 2 rfl).c 9 rfl; have sf9 := (T0.b 2 rfl).f 9 rfl; have sc10 := (T0.b 2 rfl).c 10 rfl; have sf10 := (T0.b 2 rfl).f 10 rfl; have sc11 := (T0.b 2 rfl).c 11 rfl; have sf11 := (T0.b 2 rfl).f 11 rfl; have rl := (T0.b 1 rfl).lt; have sl := (T0.b 2 rfl).lt))
 all_goals have HB := T0.below
 all_goals have X1 : Blk _ (w.heap.size + 1) _ := T0.b 1 rfl
 all_goals have X2 : Blk _ (w.heap.size + 1 + 1) _ := T0.b 2 rfl
 go_wp2
 have F1 : Blk ((((((((((((((((((((((((v2.setCell ⟨(w.heap.size + 1), 0, none⟩ (.int .u64 (ww3 a))).setCell ⟨(w.heap.size + 1), 1, none⟩ (.int .u64 (ww2 a))).setCell ⟨(w.heap.size + 1), 2, none⟩ (.int .u64 (ww1 a))).setCell ⟨(w.heap.size + 1), 3, none⟩ (.int .u64 (ww0 a))).setCell ⟨(w.heap.size + 1), 4, none⟩ (.int .u64 (ww3 b))).setCell ⟨(w.heap.size + 1), 5, none⟩ (.int .u64 (ww2 b))).setCell ⟨(w.heap.size + 1), 6, none⟩ (.int .u64 (ww1 b))).setCell ⟨(w.heap.size + 1), 7, none⟩ (.int .u64 (ww0 b))).setCell ⟨(w.heap.size + 1), 8, none⟩ (.int .u64 (ww3 1))).setCell ⟨(w.heap.size + 1), 9, none⟩ (.int .u64 (ww2 1))).setCell ⟨(w.heap.size + 1), 10, none⟩ (.int .u64 (ww1 1))).setCell ⟨(w.heap.size + 1), 11, none⟩ (.int .u64 (ww0 1))).setCell ⟨(w.heap.size + 1 + 1), 0, none⟩ (.int .u64 (ww3 c))).setCell ⟨(w.heap.size + 1 + 1), 1, none⟩ (.int .u64 (ww2 c))).setCell ⟨(w.heap.size + 1 + 1), 2, none⟩ (.int .u64 (ww1 c))).setCell ⟨(w.heap.size + 1 + 1), 3, none⟩ (.int .u64 (ww0 c))).setCell ⟨(w.heap.size + 1 + 1), 4, none⟩ (.int .u64 (ww3 d))).setCell ⟨(w.heap.size + 1 + 1), 5, none⟩ (.int .u64 (ww2 d))).setCell ⟨(w.heap.size + 1 + 1), 6, none⟩ (.int .u64 (ww1 d))).setCell ⟨(w.heap.size + 1 + 1), 7, none⟩ (.int .u64 (ww0 d))).setCell ⟨(w.heap.size + 1 + 1), 8, none⟩ (.int .u64 (ww3 1))).setCell ⟨(w.heap.size + 1 + 1), 9, none⟩ (.int .u64 (ww2 1))).setCell ⟨(w.heap.size + 1 + 1), 10, none⟩ (.int .u64 (ww1 1))).setCell ⟨(w.heap.size + 1 + 1), 11, none⟩ (.int .u64 (ww0 1))) (w.heap.size + 1) [.int .u64 (ww3 a), .int .u64 (ww2 a), .int .u64 (ww1 a), .int .u64 (ww0 a), .int .u64 (ww3 b), .int .u64 (ww2 b), .int .u64 (ww1 b), .int .u64 (ww0 b), .int .u64 (ww3 1), .int .u64 (ww2 1), .int .u64 (ww1 1), .int .u64 (ww0 1)] := (X1.stored12 (.int .u64 (ww3 a)) (.int .u64 (ww2 a)) (.int .u64 (ww1 a)) (.int .u64 (ww0 a)) (.int .u64 (ww3 b)) (.int .u64 (ww2 b)) (.int .u64 (ww1 b)) (.int .u64 (ww0 b)) (.int .u64 (ww3 1)) (.int .u64 (ww2 1)) (.int .u64 (ww1 1)) (.int .u64 (ww0 1))).set12 (by omega)
 have F2 : Blk ((((((((((((((((((((((((v2.setCell ⟨(w.heap.size + 1), 0, none⟩ (.int .u64 (ww3 a))).setCell ⟨(w.heap.size + 1), 1, none⟩ (.int .u64 (ww2 a))).setCell ⟨(w.heap.size + 1), 2, none⟩ (.int .u64 (ww1 a))).setCell ⟨(w.heap.size + 1), 3, none⟩ (.int .u64 (ww0 a))).setCell ⟨(w.heap.size + 1), 4, none⟩ (.int .u64 (ww3 b))).setCell ⟨(w.heap.size + 1), 5, none⟩ (.int .u64 (ww2 b))).setCell ⟨(w.heap.size + 1), 6, none⟩ (.int .u64 (ww1 b))).setCell ⟨(w.heap.size + 1), 7, none⟩ (.int .u64 (ww0 b))).setCell ⟨(w.heap.size + 1), 8, none⟩ (.int .u64 (ww3 1))).setCell ⟨(w.heap.size + 1), 9, none⟩ (.int .u64 (ww2 1))).setCell ⟨(w.heap.size + 1), 10, none⟩ (.int .u64 (ww1 1))).setCell ⟨(w.heap.size + 1), 11, none⟩ (.int .u64 (ww0 1))).setCell ⟨(w.heap.size + 1 + 1), 0, none⟩ (.int .u64 (ww3 c))).setCell ⟨(w.heap.size + 1 + 1), 1, none⟩ (.int .u64 (ww2 c))).setCell ⟨(w.heap.size + 1 + 1), 2, none⟩ (.int .u64 (ww1 c))).setCell ⟨(w.heap.size + 1 + 1), 3, none⟩ (.int .u64 (ww0 c))).setCell ⟨(w.heap.size + 1 + 1), 4, none⟩ (.int .u64 (ww3 d))).setCell ⟨(w.heap.size + 1 + 1), 5, none⟩ (.int .u64 (ww2 d))).setCell ⟨(w.heap.size + 1 + 1), 6, none⟩ (.int .u64 (ww1 d))).setCell ⟨(w.heap.size + 1 + 1), 7, none⟩ (.int .u64 (ww0 d))).setCell ⟨(w.heap.size + 1 + 1), 8, none⟩ (.int .u64 (ww3 1))).setCell ⟨(w.heap.size + 1 + 1), 9, none⟩ (.int .u64 (ww2 1))).setCell ⟨(w.heap.size + 1 + 1), 10, none⟩ (.int .u64 (ww1 1))).setCell ⟨(w.heap.size + 1 + 1), 11, none⟩ (.int .u64 (ww0 1))) (w.heap.size + 1 + 1) [.int .u64 (ww3 c), .int .u64 (ww2 c), .int .u64 (ww1 c), .int .u64 (ww0 c), .int .u64 (ww3 d), .int .u64 (ww2 d), .int .u64 (ww1 d), .int .u64 (ww0 d), .int .u64 (ww3 1), .int .u64 (ww2 1), .int .u64 (ww1 1), .int .u64 (ww0 1)] := (X2.set12 (by omega)).stored12 (.int .u64 (ww3 c)) (.int .u64 (ww2 c)) (.int .u64 (ww1 c)) (.int .u64 (ww0 c)) (.int .u64 (ww3 d)) (.int .u64 (ww2 d)) (.int .u64 (ww1 d)) (.int .u64 (ww0 d)) (.int .u64 (ww3 1)) (.int .u64 (ww2 1)) (.int .u64 (ww1 1)) (.int .u64 (ww0 1))
 have HBF : Below w.heap.size w ((((((((((((((((((((((((v2.setCell ⟨(w.heap.size + 1), 0, none⟩ (.int .u64 (ww3 a))).setCell ⟨(w.heap.size + 1), 1, none⟩ (.int .u64 (ww2 a))).setCell ⟨(w.heap.size + 1), 2, none⟩ (.int .u64 (ww1 a))).setCell ⟨(w.heap.size + 1), 3, none⟩ (.int .u64 (ww0 a))).setCell ⟨(w.heap.size + 1), 4, none⟩ (.int .u64 (ww3 b))).setCell ⟨(w.heap.size + 1), 5, none⟩ (.int .u64 (ww2 b))).setCell ⟨(w.heap.size + 1), 6, none⟩ (.int .u64 (ww1 b))).setCell ⟨(w.heap.size + 1), 7, none⟩ (.int .u64 (ww0 b))).setCell ⟨(w.heap.size + 1), 8, none⟩ (.int .u64 (ww3 1))).setCell ⟨(w.heap.size + 1), 9, none⟩ (.int .u64 (ww2 1))).setCell ⟨(w.heap.size + 1), 10, none⟩ (.int .u64 (ww1 1))).setCell ⟨(w.heap.size + 1), 11, none⟩ (.int .u64 (ww0 1))).setCell ⟨(w.heap.size + 1 + 1), 0, none⟩ (.int .u64 (ww3 c))).setCell ⟨(w.heap.size + 1 + 1), 1, none⟩ (.int .u64 (ww2 c))).setCell ⟨(w.heap.size + 1 + 1), 2, none⟩ (.int .u64 (ww1 c))).setCell ⟨(w.heap.size + 1 + 1), 3, none⟩ (.int .u64 (ww0 c))).setCell ⟨(w.heap.size + 1 + 1), 4, none⟩ (.int .u64 (ww3 d))).setCell ⟨(w.heap.size + 1 + 1), 5, none⟩ (.int .u64 (ww2 d))).setCell ⟨(w.heap.size + 1 + 1), 6, none⟩ (.int .u64 (ww1 d))).setCell ⟨(w.heap.size + 1 + 1), 7, none⟩ (.int .u64 (ww0 d))).setCell ⟨(w.heap.size + 1 + 1), 8, none⟩ (.int .u64 (ww3 1))).setCell ⟨(w.heap.size + 1 + 1), 9, none⟩ (.int .u64 (ww2 1))).setCell ⟨(w.heap.size + 1 + 1), 10, none⟩ (.int .u64 (ww1 1))).setCell ⟨(w.heap.size + 1 + 1), 11, none⟩ (.int .u64 (ww0 1))) := Below.set12 (by omega) (Below.set12 (by omega) HB)
 generalize ((((((((((((((((((((((((v2.setCell ⟨(w.heap.size + 1), 0, none⟩ (.int .u64 (ww3 a))).setCell ⟨(w.heap.size + 1), 1, none⟩ (.int .u64 (ww2 a))).setCell ⟨(w.heap.size + 1), 2, none⟩ (.int .u64 (ww1 a))).setCell ⟨(w.heap.size + 1), 3, none⟩ (.int .u64 (ww0 a))).setCell ⟨(w.heap.size + 1), 4, none⟩ (.int .u64 (ww3 b))).setCell ⟨(w.heap.size + 1), 5, none⟩ (.int .u64 (ww2 b))).setCell ⟨(w.heap.size + 1), 6, none⟩ (.int .u64 (ww1 b))).setCell ⟨(w.heap.size + 1), 7, none⟩ (.int .u64 (ww0 b))).setCell ⟨(w.heap.size + 1), 8, none⟩ (.int .u64 (ww3 1))).setCell ⟨(w.heap.size + 1), 9, none⟩ (.int .u64 (ww2 1))).setCell ⟨(w.heap.size + 1), 10, none⟩ (.int .u64 (ww1 1))).setCell ⟨(w.heap.size + 1), 11, none⟩ (.int .u64 (ww0 1))).setCell ⟨(w.heap.size + 1 + 1), 0, none⟩ (.int .u64 (ww3 c))).setCell ⟨(w.heap.size + 1 + 1), 1, none⟩ (.int .u64 (ww2 c))).setCell ⟨(w.heap.size + 1 + 1), 2, none⟩ (.int .u64 (ww1 c))).setCell ⟨(w.heap.size + 1 + 1), 3, none⟩ (.int .u64 (ww0 c))).setCell ⟨(w.heap.size + 1 + 1), 4, none⟩ (.int .u64 (ww3 d))).setCell ⟨(w.heap.size + 1 + 1), 5, none⟩ (.int .u64 (ww2 d))).setCell ⟨(w.heap.size + 1 + 1), 6, none⟩ (.int .u64 (ww1 d))).setCell ⟨(w.heap.size + 1 + 1), 7, none⟩ (.int .u64 (ww0 d))).setCell ⟨(w.heap.size + 1 + 1), 8, none⟩ (.int .u64 (ww3 1))).setCell ⟨(w.heap.size + 1 + 1), 9, none⟩ (.int .u64 (ww2 1))).setCell ⟨(w.heap.size + 1 + 1), 10, none⟩ (.int .u64 (ww1 1))).setCell ⟨(w.heap.size + 1 + 1), 11, none⟩ (.int .u64 (ww0 1))) = WF at *
 obtain ⟨m0, m1, m2, m3, m4, m5, m6, m7, m8, m9, m10, m11⟩ := F1.cs12; obtain ⟨n0, n1, n2, n3, n4, n5, n6, n7, n8, n9, n10, n11⟩ := F2.cs12
 refine bodyPost_ret (v := .tuple #[PV a b 1, PV c d 1]) (by simp [results, Tryz.results48, go_sem, m0, n0, m1, n1, m2, n2, m3, n3, m4, n4, m5, n5, m6, n6, m7, n7, m8, n8, m9, n9, m10, n10, m11, n11]) rfl ?_
 exact ⟨rfl, HBF⟩
theorem specSegOf_any (x y u v A B C D : Int) (l k : Bool) (hl : lessI u v x y = l) (hk : segOk A B C D = k) (hA : cond l u x = A) (hB : cond l v y = B) (hC : cond l x u = C) (hD : cond l y v = D) (w : World) :
   Calls Tryz.prog 50 #[Sp x y, Sp u v] w (VP (.tuple #[Sg (cond k A 0) (cond k B 0) (cond k C 0) (cond k D 0), .bool k]) w) := by
 cases l <;> simp only [cond_true, cond_false] at hA hB hC hD <;> subst hA hB hC hD
 · have B0 := Blk.new w [.int .i64 x, .int .i64 y] 25 rfl
   have HB0 : Below w.heap.size w _ := (Below.refl _ w).alloc (Nat.le_refl _) (.cells #[.int .i64 x, .int .i64 y] 25)
   have B1 := Blk.new (w.alloc (.cells #[.int .i64 x, .int .i64 y] 25)) [.int .i64 u, .int .i64 v] 25 (g := w.heap.size + 1) (by simp)
   replace B0 := B0.alloc (.cells #[.int .i64 u, .int .i64 v] 25)
   replace HB0 := HB0.alloc (by simp) (.cells #[.int .i64 u, .int .i64 v] 25)
   have B2 := Blk.new ((w.alloc (.cells #[.int .i64 x, .int .i64 y] 25)).alloc (.cells #[.int .i64 u, .int .i64 v] 25)) [.int .i64 0, .int .i64 0, .int .i64 0, .int .i64 0] 27 (g := w.heap.size + 1 + 1) (by simp)
   replace B0 := B0.alloc (.cells #[.int .i64 0, .int .i64 0, .int .i64 0, .int .i64 0] 27)
   replace B1 := B1.alloc (.cells #[.int .i64 0, .int .i64 0, .int .i64 0, .int .i64 0] 27)
   replace HB0 := HB0.alloc (by simp; omega) (.cells #[.int .i64 0, .int .i64 0, .int .i64 0, .int .i64 0] 27)
   go_enter Tryz.func50, Tryz.ntmps50
   go_wp2_with fail
   refine (l4Less_any _ _ _ _ false hl _).mono ?_
   rintro e w1 ⟨rfl, hB⟩
   replace B0 := B0.step hB; replace B1 := B1.step hB; replace B2 := B2.step hB
   have HB : Below w.heap.size w w1 := HB0.trans (hB.mono HB0.size)
   clear hB HB0
   obtain ⟨cB00, fB00, cB01, fB01⟩ := B0.cf2; obtain ⟨cB10, fB10, cB11, fB11⟩ := B1.cf2; obtain ⟨cB20, fB20, cB21, fB21, cB22, fB22, cB23, fB23⟩ := B2.cf4; have ltB0 := B0.lt; have ltB1 := B1.lt; have ltB2 := B2.lt
   go_wp2_with fail
   have D2 := B2.alloc (.cells #[.int .i64 x, .int .i64 y, .int .i64 u, .int .i64 v] 27)
   have D3 := Blk.new w1 [.int .i64 x, .int .i64 y, .int .i64 u, .int .i64 v] 27 rfl
   have HC := HB.alloc HB.size (.cells #[.int .i64 x, .int .i64 y, .int .i64 u, .int .i64 v] 27)
   refine (specSegOk_any _ _ _ _ k hk _).mono ?_
   rintro e w2 ⟨rfl, hB⟩
   replace D2 := D2.step hB
   replace D3 := D3.step hB
   have HD : Below w.heap.size w w2 := HC.trans (hB.mono HC.size)
   clear hB HC HB B0 B1 B2 cB00 fB00 cB01 fB01 cB10 fB10 cB11 fB11 cB20 fB20 cB21 fB21 cB22 fB22 cB23 fB23 ltB0 ltB1 ltB2
   obtain ⟨cD20, fD20, cD21, fD21, cD22, fD22, cD23, fD23⟩ := D2.cf4; obtain ⟨cD30, fD30, cD31, fD31, cD32, fD32, cD33, fD33⟩ := D3.cf4
   have ltD2 := D2.lt; have ltD3 := D3.lt
   cases k
   · go_wp2
     refine bodyPost_ret (v := .tuple #[Sg 0 0 0 0, .bool false]) (by simp [results, Tryz.results50, go_sem, cD20, cD21, cD22, cD23]) rfl ?_
     refine ⟨rfl, ?_⟩
     repeat' (refine Below.setCell ?_ (by simp; try omega) _)
     exact HD
   · go_wp2
     refine bodyPost_ret (v := .tuple #[Sg x y u v, .bool true]) (by simp [results, Tryz.results50, go_sem, cD20, cD21, cD22, cD23]) rfl ?_
     refine ⟨rfl, ?_⟩
     repeat' (refine Below.setCell ?_ (by simp; try omega) _)
     exact HD
 · have B0 := Blk.new w [.int .i64 x, .int .i64 y] 25 rfl
   have HB0 : Below w.heap.size w _ := (Below.refl _ w).alloc (Nat.le_refl _) (.cells #[.int .i64 x, .int .i64 y] 25)
   have B1 := Blk.new (w.alloc (.cells #[.int .i64 x, .int .i64 y] 25)) [.int .i64 u, .int .i64 v] 25 (g := w.heap.size + 1) (by simp)
   replace B0 := B0.alloc (.cells #[.int .i64 u, .int .i64 v] 25)
   replace HB0 := HB0.alloc (by simp) (.cells #[.int .i64 u, .int .i64 v] 25)
   have B2 := Blk.new ((w.alloc (.cells #[.int .i64 x, .int .i64 y] 25)).alloc (.cells #[.int .i64 u, .int .i64 v] 25)) [.int .i64 0, .int .i64 0, .int .i64 0, .int .i64 0] 27 (g := w.heap.size + 1 + 1) (by simp)
   replace B0 := B0.alloc (.cells #[.int .i64 0, .int .i64 0, .int .i64 0, .int .i64 0] 27)
   replace B1 := B1.alloc (.cells #[.int .i64 0, .int .i64 0, .int .i64 0, .int .i64 0] 27)
   replace HB0 := HB0.alloc (by simp; omega) (.cells #[.int .i64 0, .int .i64 0, .int .i64 0, .int .i64 0] 27)
   go_enter Tryz.func50, Tryz.ntmps50
   go_wp2_with fail
   refine (l4Less_any _ _ _ _ true hl _).mono ?_
   rintro e w1 ⟨rfl, hB⟩
   replace B0 := B0.step hB; replace B1 := B1.step hB; replace B2 := B2.step hB
   have HB : Below w.heap.size w w1 := HB0.trans (hB.mono HB0.size)
   clear hB HB0
   obtain ⟨cB00, fB00, cB01, fB01⟩ := B0.cf2; obtain ⟨cB10, fB10, cB11, fB11⟩ := B1.cf2; obtain ⟨cB20, fB20, cB21, fB21, cB22, fB22, cB23, fB23⟩ := B2.cf4; have ltB0 := B0.lt; have ltB1 := B1.lt; have ltB2 := B2.lt
   go_wp2_with fail
   have D2 := ((((B2.setO (p := ⟨w.heap.size, 0, none⟩) (by simp; omega) (.int .i64 u)).setO (p := ⟨w.heap.size, 1, none⟩) (by simp; omega) (.int .i64 v)).setO (p := ⟨w.heap.size + 1, 0, none⟩) (by simp) (.int .i64 x)).setO (p := ⟨w.heap.size + 1, 1, none⟩) (by simp) (.int .i64 y)).alloc (.cells #[.int .i64 u, .int .i64 v, .int .i64 x, .int .i64 y] 27)
   have HC := ((((HB.setCell (p := ⟨w.heap.size, 0, none⟩) (by simp) (.int .i64 u)).setCell (p := ⟨w.heap.size, 1, none⟩) (by simp) (.int .i64 v)).setCell (p := ⟨w.heap.size + 1, 0, none⟩) (by simp) (.int .i64 x)).setCell (p := ⟨w.heap.size + 1, 1, none⟩) (by simp) (.int .i64 y))
   have D3 := Blk.new ((((w1.setCell ⟨w.heap.size, 0, none⟩ (.int .i64 u)).setCell ⟨w.heap.size, 1, none⟩ (.int .i64 v)).setCell ⟨w.heap.size + 1, 0, none⟩ (.int .i64 x)).setCell ⟨w.heap.size + 1, 1, none⟩ (.int .i64 y)) [.int .i64 u, .int .i64 v, .int .i64 x, .int .i64 y] 27 (g := w1.heap.size) (by simp [World.setCell])
   replace HC := HC.alloc (by have := HB.size; simpa [World.setCell] using this) (.cells #[.int .i64 u, .int .i64 v, .int .i64 x, .int .i64 y] 27)
   refine (specSegOk_any _ _ _ _ k hk _).mono ?_
   rintro e w2 ⟨rfl, hB⟩
   replace D2 := D2.step hB
   replace D3 := D3.step hB
   have HD : Below w.heap.size w w2 := HC.trans (hB.mono HC.size)
   clear hB HC HB B0 B1 B2 cB00 fB00 cB01 fB01 cB10 fB10 cB11 fB11 cB20 fB20 cB21 fB21 cB22 fB22 cB23 fB23 ltB0 ltB1 ltB2
   obtain ⟨cD20, fD20, cD21, fD21, cD22, fD22, cD23, fD23⟩ := D2.cf4; obtain ⟨cD30, fD30, cD31, fD31, cD32, fD32, cD33, fD33⟩ := D3.cf4
   have ltD2 := D2.lt; have ltD3 := D3.lt
   cases k
   · go_wp2
     refine bodyPost_ret (v := .tuple #[Sg 0 0 0 0, .bool false]) (by simp [results, Tryz.results50, go_sem, cD20, cD21, cD22, cD23]) rfl ?_
     refine ⟨rfl, ?_⟩
     repeat' (refine Below.setCell ?_ (by simp; try omega) _)
     exact HD
   · go_wp2
     refine bodyPost_ret (v := .tuple #[Sg u v x y, .bool true]) (by simp [results, Tryz.results50, go_sem, cD20, cD21, cD22, cD23]) rfl ?_
     refine ⟨rfl, ?_⟩
     repeat' (refine Below.setCell ?_ (by simp; try omega) _)
     exact HD
structure Kept (g : Nat) (w w' : World) : Prop where
 os : w'.os = w.os
 tape : w'.tape = w.tape
 output : w'.output = w.output
 size : w.heap.size ≤ w'.heap.size
 block : ∀ k, k < w.heap.size → k ≠ g → w'.heap[k]? = w.heap[k]?
 other : ∀ j, j ≠ 1 → g < w.heap.size → w'.cell? ⟨g, j, none⟩ = w.cell? ⟨g, j, none⟩
theorem Kept.refl (g : Nat) (w : World) : Kept g w w := ⟨rfl, rfl, rfl, Nat.le_refl _, fun _ _ _ => rfl, fun _ _ _ => rfl⟩
theorem Kept.trans {g : Nat} {a b c : World} (h : Kept g a b) (k : Kept g b c) : Kept g a c :=
 ⟨k.os.trans h.os, k.tape.trans h.tape, k.output.trans h.output, Nat.le_trans h.size k.size, fun i hi hg => (k.block i (Nat.lt_of_lt_of_le hi h.size) hg).trans (h.block i hi hg), fun j hj hl => (k.other j hj (Nat.lt_of_lt_of_le hl h.size)).trans (h.other j hj hl)⟩
theorem Kept.of {g : Nat} {a b : World} (h : Below a.heap.size a b) : Kept g a b := ⟨h.os, h.tape, h.output, h.size, fun i hi _ => h.block i hi, fun j _ hl => h.cell (p := ⟨g, j, none⟩) hl⟩
theorem Kept.drewN {g : Nat} {a b : World} (h : Kept g a b) (n : Nat) : Kept g a (b.drewN n) := ⟨h.os, h.tape, h.output, h.size, h.block, h.other⟩
theorem Kept.set {g : Nat} {a b : World} (h : Kept g a b) (u : Value) : Kept g a (b.setCell ⟨g, 1, none⟩ u) :=
 ⟨h.os, h.tape, h.output, by simpa [World.setCell] using h.size, fun k hk hg => (Below.heap_setCell _ _ _ _ hg).trans (h.block k hk hg), fun j hj hl => (World.cell?_setCell_other _ _ _ _ (by intro e; simp only [Addr.mk.injEq] at e; omega)).trans (h.other j hj hl)⟩
theorem Kept.alloc {g : Nat} {a b : World} (h : Kept g a b) (o : Obj) : Kept g a (b.alloc o) := h.trans (Kept.of ((Below.refl _ _).alloc (Nat.le_refl _) o))
theorem Kept.below {g B : Nat} {a b : World} (h : Kept g a b) (hB : B ≤ g) (hB' : B ≤ a.heap.size) : Below B a b := ⟨h.os, h.tape, h.output, h.size, fun k hk => h.block k (by omega) (by omega)⟩
theorem Blk.kept {W W' : World} {g h : Nat} {vs : List Value} (H : Blk W h vs) (k : Kept g W W') (hne : h ≠ g) : Blk W' h vs := by
 have e := k.block h H.lt hne
 refine ⟨Nat.lt_of_lt_of_le H.lt k.size, fun i v hi => ⟨?_, ?_⟩⟩
 · exact (World.cell?_of_block (w := W) e).trans (H.c i hi)
 · exact (World.frozen?_of_block (w := W) e).trans (H.f i hi)
structure Rdr (w : World) (g : Nat) (ao : Option Addr) (n cap : Nat) (cs : List Int) : Prop where
 blk : ∃ p : Nat, p ≤ n ∧ Blk w g [.slice ao n cap, .int .i64 p]
 bytes : ∀ i, (h : i < cs.length) → ∃ b off, ao = some ⟨b, off, none⟩ ∧ b < g ∧ w.cell? ⟨b, off + i, none⟩ = some (.int .u8 cs[i])
 len : cs.length = n
 small : n ≤ 1048576
 byte : ∀ c ∈ cs, 0 ≤ c ∧ c < 256
theorem Rdr.lt {w : World} {g : Nat} {ao : Option Addr} {n cap : Nat} {cs : List Int} (h : Rdr w g ao n cap cs) : g < w.heap.size := by
 obtain ⟨p, _, B⟩ := h.blk
 exact B.lt
theorem Rdr.step {w w' : World} {g : Nat} {ao : Option Addr} {n cap : Nat} {cs : List Int} (h : Rdr w g ao n cap cs) (hB : Below w.heap.size w w') : Rdr w' g ao n cap cs := by
 obtain ⟨p, hp, B⟩ := h.blk
 refine ⟨⟨p, hp, B.step hB⟩, fun i hi => ?_, h.len, h.small, h.byte⟩
 obtain ⟨b, off, e, hb, hc⟩ := h.bytes i hi
 exact ⟨b, off, e, hb, (hB.cell (p := ⟨b, off + i, none⟩) (show b < w.heap.size by have := B.lt; omega)).trans hc⟩
theorem Rdr.alloc {w : World} {g : Nat} {ao : Option Addr} {n cap : Nat} {cs : List Int} (h : Rdr w g ao n cap cs) (o : Obj) : Rdr (w.alloc o) g ao n cap cs := h.step ((Below.refl _ _).alloc (Nat.le_refl _) o)
theorem Rdr.drew {w : World} {g : Nat} {ao : Option Addr} {n cap : Nat} {cs : List Int} (h : Rdr w g ao n cap cs) : Rdr w.drew g ao n cap cs := ⟨h.blk, h.bytes, h.len, h.small, h.byte⟩
theorem Rdr.drewN {w : World} {g : Nat} {ao : Option Addr} {n cap : Nat} {cs : List Int} (h : Rdr w g ao n cap cs) (k : Nat) : Rdr (w.drewN k) g ao n cap cs := ⟨h.blk, h.bytes, h.len, h.small, h.byte⟩
theorem Rdr.put {w : World} {g : Nat} {ao : Option Addr} {n cap : Nat} {cs : List Int} (h : Rdr w g ao n cap cs) (p : Nat) (hp : p ≤ n) : Rdr (w.setCell ⟨g, 1, none⟩ (.int .i64 p)) g ao n cap cs := by
 obtain ⟨q, hq, B⟩ := h.blk
 refine ⟨⟨p, hp, B.setI 1 (by simp) _⟩, fun i hi => ?_, h.len, h.small, h.byte⟩
 obtain ⟨b, off, e, hb, hc⟩ := h.bytes i hi
 exact ⟨b, off, e, hb, (World.cell?_setCell_other _ _ _ _ (by intro e; simp only [Addr.mk.injEq] at e; omega)).trans hc⟩
def RdP (g : Nat) (ao : Option Addr) (n cap : Nat) (cs : List Int) (Q : Value → Prop) (w : World) (e : Ending) (w' : World) : Prop := ∃ v, e = .returned v ∧ Q v ∧ Rdr w' g ao n cap cs ∧ Kept g w w'
def IsIn (a b : Int) (v : Value) : Prop := ∃ x : Int, v = .int .i64 x ∧ a ≤ x ∧ x < b
theorem next_any (g : Nat) (ao : Option Addr) (n cap : Nat) (cs : List Int) (w : World) (h : Rdr w g ao n cap cs) :
   Calls Tryz.prog 95 #[.pointer (some ⟨g, 0, none⟩)] w (RdP g ao n cap cs (IsIn 0 256) w) := by
 obtain ⟨p, hp, B⟩ := h.blk
 have b0 := B.c 0 rfl; have b1 := B.c 1 rfl; have f1 := B.f 1 rfl; have bl := B.lt
 by_cases hq : p < n
 · have hpl : p < cs.length := by rw [h.len]; exact hq
   obtain ⟨b, off, rfl, hb, hc⟩ := h.bytes p hpl
   obtain ⟨y0, y1⟩ := h.byte _ (List.getElem_mem hpl)
   have R := fun k => (h.drewN k).put (p + 1) (by omega)
   have hs := h.small
   generalize cs[p] = y at *
   have hne : g ≠ b := by omega
   have i1 : (p : Int) < n := by omega
   clear h B
   go_enter Tryz.func95, Tryz.ntmps95
   go_wp2
   go_quiet (fail)
   go_wp2
   go_quiet (fail)
   go_wp2
   go_ret
   exact ⟨_, rfl, ⟨y, rfl, y0, y1⟩, (R _).drewN _, (((Kept.refl _ _).drewN _).set _).drewN _⟩
 · obtain rfl : p = n := by omega
   have hs := h.small
   go_enter Tryz.func95, Tryz.ntmps95
   go_wp2
   go_quiet (fail)
   go_wp2
   go_ret
   exact ⟨_, rfl, ⟨0, rfl, by decide, by decide⟩, h.drewN _, (Kept.refl _ _).drewN _⟩
theorem below_any (m : Int) (h2 : 2 ≤ m) (h256 : m ≤ 256) (g : Nat) (ao : Option Addr) (n cap : Nat) (cs : List Int) (w : World) (h : Rdr w g ao n cap cs) :
   Calls Tryz.prog 56 #[.pointer (some ⟨g, 0, none⟩), .int .i64 m] w (RdP g ao n cap cs (IsIn 0 m) w) := by
 go_enter Tryz.func56, Tryz.ntmps56
 go_wp2_with fail
 all_goals first | (exfalso; omega) | skip
 refine (next_any g ao n cap cs _ h).mono ?_
 rintro e w1 ⟨_, rfl, ⟨x, rfl, x0, x1⟩, R, K⟩
 have hm : m ≠ 0 := by omega
 go_wp2
 go_ret
 exact ⟨_, rfl, ⟨x % m, rfl, Int.emod_nonneg _ hm, Int.emod_lt_of_pos _ (by omega)⟩, R, K⟩
theorem or_word {a b : Int} (ha : Word a) (hb : Word b) : Word (bits .or .u64 a b) := by
 obtain ⟨a0, a1⟩ := ha
 obtain ⟨b0, b1⟩ := hb
 obtain ⟨a, rfl⟩ := Int.eq_ofNat_of_zero_le a0
 obtain ⟨b, rfl⟩ := Int.eq_ofNat_of_zero_le b0
 rw [bits_or_u64_nat a b (by omega) (by omega)]
 have := Nat.or_lt_two_pow (n := 64) (x := a) (y := b) (by omega) (by omega)
 exact ⟨by omega, by omega⟩
def IsWord (v : Value) : Prop := ∃ x : Int, v = .int .u64 x ∧ Word x
def IsBool (v : Value) : Prop := ∃ b, v = .bool b
theorem once_any (m : Int) (h2 : 2 ≤ m) (h256 : m ≤ 256) (g : Nat) (ao : Option Addr) (n cap : Nat) (cs : List Int) (w : World) (h : Rdr w g ao n cap cs) :
   Calls Tryz.prog 24 #[.pointer (some ⟨g, 0, none⟩), .int .i64 m] w (RdP g ao n cap cs IsBool w) := by
 go_enter Tryz.func24, Tryz.ntmps24
 go_wp2_with fail
 refine (below_any m h2 h256 g ao n cap cs _ h).mono ?_
 rintro e w1 ⟨_, rfl, ⟨x, rfl, x0, x1⟩, R, K⟩
 go_wp2
 go_ret
 exact ⟨_, rfl, ⟨_, rfl⟩, R, K⟩
theorem word_any (g : Nat) (ao : Option Addr) (n cap : Nat) (cs : List Int) (w : World) (h : Rdr w g ao n cap cs) :
   Calls Tryz.prog 96 #[.pointer (some ⟨g, 0, none⟩)] w (RdP g ao n cap cs IsWord w) := by
 go_enter Tryz.func96, Tryz.ntmps96
 go_wp2
 go_loopw [3, 4] (fun o i wr => ∃ (k : Nat) (x : Int), k ≤ 8 ∧ i = .int .i64 k ∧ o = .int .u64 x ∧ Word x ∧ Rdr wr g ao n cap cs ∧ Kept g w wr) (fun _ i _ => 8 - (intOf i).toNat)
 case atStart => exact ⟨0, 0, by omega, rfl, rfl, ⟨by decide, by decide⟩, h, Kept.refl _ _⟩
 case round =>
   clear h
   obtain ⟨k, x, hk, rfl, rfl, hx, R, K⟩ := hrel
   by_cases hk8 : k < 8
   · have i1 : (k : Int) < 8 := by omega
     go_wp2_with fail
     refine (next_any g ao n cap cs _ R).mono ?_
     rintro e w1 ⟨_, rfl, ⟨y, rfl, y0, y1⟩, R1, K1⟩
     replace K := K.trans K1
     clear R K1
     have hy : IntKind.u64.wrap y = y := by rw [IntKind.wrap_u64]; omega
     have OW := or_word (a := IntKind.u64.wrap (x * 256)) (b := y) (by rw [IntKind.wrap_u64]; exact ⟨by omega, by omega⟩) ⟨y0, by omega⟩
     clear hx
     go_wp2
     go_roundw
     case rel => exact ⟨k + 1, _, by omega, by go_num, rfl, OW, R1, K⟩
     case measure => simp [intOf]; omega
   · obtain rfl : k = 8 := by omega
     go_wp2
     go_ret
     exact ⟨_, rfl, ⟨x, rfl, hx⟩, R, K⟩
theorem Rdr.setN {w : World} {g : Nat} {ao : Option Addr} {n cap : Nat} {cs : List Int} (h : Rdr w g ao n cap cs) {p : Addr} (hp : g < p.block) (u : Value) : Rdr (w.setCell p u) g ao n cap cs := by
 obtain ⟨q, hq, B⟩ := h.blk
 refine ⟨⟨q, hq, B.setO (by omega) u⟩, fun i hi => ?_, h.len, h.small, h.byte⟩
 obtain ⟨b, off, e, hb, hc⟩ := h.bytes i hi
 exact ⟨b, off, e, hb, (World.cell?_setCell_other _ _ _ _ (by intro e; rw [e] at hp; simp at hp; omega)).trans hc⟩
theorem Kept.setN {g : Nat} {a b : World} (h : Kept g a b) {p : Addr} (hp : a.heap.size ≤ p.block) (hg : g ≠ p.block) (u : Value) : Kept g a (b.setCell p u) :=
 ⟨h.os, h.tape, h.output, by simpa [World.setCell] using h.size, fun k hk hne => (Below.heap_setCell _ _ _ _ (by omega)).trans (h.block k hk hne), fun j hj hl => (World.cell?_setCell_other _ _ _ _ (by intro e; rw [e] at hg; exact hg rfl)).trans (h.other j hj hl)⟩
structure Code (w : World) (ao : Option Addr) (n : Nat) (cs : List Int) : Prop where
 bytes : ∀ i, (h : i < cs.length) → ∃ b off, ao = some ⟨b, off, none⟩ ∧ b < w.heap.size ∧ w.cell? ⟨b, off + i, none⟩ = some (.int .u8 cs[i])
 len : cs.length = n
 small : n ≤ 1048576
 byte : ∀ c ∈ cs, 0 ≤ c ∧ c < 256
theorem Code.below {w w' : World} {ao : Option Addr} {n : Nat} {cs : List Int} (h : Code w ao n cs) (hB : Below w.heap.size w w') : Code w' ao n cs := by
 refine ⟨fun i hi => ?_, h.len, h.small, h.byte⟩
 obtain ⟨b, off, e, hb, hc⟩ := h.bytes i hi
 exact ⟨b, off, e, Nat.lt_of_lt_of_le hb hB.size, (hB.cell (p := ⟨b, off + i, none⟩) hb).trans hc⟩
def OpenP (ao : Option Addr) (n cap : Nat) (cs : List Int) (w : World) (e : Ending) (w' : World) : Prop := ∃ G, e = .returned (.pointer (some ⟨G, 0, none⟩)) ∧ w.heap.size ≤ G ∧ Rdr w' G ao n cap cs ∧ Below w.heap.size w w'
theorem open_any (ao : Option Addr) (n cap : Nat) (cs : List Int) (w : World) (h : Code w ao n cs) :
   Calls Tryz.prog 22 #[.slice ao n cap] w (OpenP ao n cap cs w) := by
 go_enter Tryz.func22, Tryz.ntmps22
 go_wp2
 go_ret
 refine ⟨w.heap.size, rfl, Nat.le_refl _, ⟨⟨0, Nat.zero_le _, Blk.new w [.slice ao n cap, .int .i64 0] 99 rfl⟩, fun i hi => ?_, h.len, h.small, h.byte⟩, (Below.refl _ _).alloc (Nat.le_refl _) _⟩
 obtain ⟨b, off, e, hb, hc⟩ := h.bytes i hi
 exact ⟨b, off, e, hb, cell_alloc hb hc⟩
def Div2P (k : Nat) (x y : Int) (w : World) (e : Ending) (w' : World) : Prop :=
 ∃ (s2 : Bool) (o2 : Option Addr) (n2 c2 : Nat) (d2 : List Int) (s3 : Bool) (o3 : Option Addr) (n3 c3 : Nat) (d3 : List Int), e = .returned (.tuple #[.agg #[.bool s2, .slice o2 n2 c2], .agg #[.bool s3, .slice o3 n3 c3]]) ∧ IsNum w' s2 o2 n2 c2 d2 (x / y) (k + 3) ∧ IsNum w' s3 o3 n3 c3 d3 (x % y) (k + 3) ∧ Below w.heap.size w w'
theorem num_put {w : World} {s : Bool} {ao : Option Addr} {n cap : Nat} {ds : List Int} {z : Int} {k R : Nat} {p : Bool} {q : Option Addr} {q1 q2 : Nat} (h : IsNum w s ao n cap ds z k) (B : Blk w R [.bool p, .slice q q1 q2]) (u0 u1 : Value) : IsNum ((w.setCell ⟨R, 0, none⟩ u0).setCell ⟨R, 1, none⟩ u1) s ao n cap ds z k := by
 have h1 := h.rd.set u0 (B.c 0 rfl) (by intro x e; cases e)
 have B1 := B.setI 0 (by simp) u0
 have h2 := h1.set u1 (B1.c 1 rfl) (by intro x e; cases e)
 exact ⟨h.neg, h.len, h.cap, h2, h.nrm, h.val, h.le⟩
theorem num_more {w : World} {s : Bool} {ao : Option Addr} {n cap : Nat} {ds : List Int} {z : Int} {k k' : Nat} (h : IsNum w s ao n cap ds z k) (hk : k ≤ k') : IsNum w s ao n cap ds z k' := ⟨h.neg, h.len, h.cap, h.rd, h.nrm, h.val, Nat.le_trans h.le hk⟩
theorem num_drawn {w : World} {s : Bool} {ao : Option Addr} {n cap : Nat} {ds : List Int} {z : Int} {k : Nat} (h : IsNum w s ao n cap ds z k) : IsNum w.drew s ao n cap ds z k := ⟨h.neg, h.len, h.cap, h.rd, h.nrm, h.val, h.le⟩
theorem div_done {w W : World} {s2 s3 : Bool} {o2 o3 : Option Addr} {n2 c2 n3 c3 : Nat} {d2 d3 : List Int} {x y : Int} {k : Nat} (HB : Below w.heap.size w W) (NU : IsNum W s2 o2 n2 c2 d2 (x / y) (k + 3)) (NV : IsNum W s3 o3 n3 c3 d3 (x % y) (k + 3)) (C : Blk W (w.heap.size + 1 + 1) [.bool false, .slice none 0 0]) (D : Blk W (w.heap.size + 1 + 1 + 1) [.bool false, .slice none 0 0]) :
   Div2P k x y w (.returned (.tuple #[.agg #[.bool s2, .slice o2 n2 c2], .agg #[.bool s3, .slice o3 n3 c3]])) ((((W.setCell ⟨w.heap.size + 1 + 1, 0, none⟩ (.bool s2)).setCell ⟨w.heap.size + 1 + 1, 1, none⟩ (.slice o2 n2 c2)).setCell ⟨w.heap.size + 1 + 1 + 1, 0, none⟩ (.bool s3)).setCell ⟨w.heap.size + 1 + 1 + 1, 1, none⟩ (.slice o3 n3 c3)) := by
 have D' := (D.setO (p := ⟨w.heap.size + 1 + 1, 0, none⟩) (by simp) (.bool s2)).setO (p := ⟨w.heap.size + 1 + 1, 1, none⟩) (by simp) (.slice o2 n2 c2)
 refine ⟨s2, o2, n2, c2, d2, s3, o3, n3, c3, d3, rfl, num_put (num_put NU C _ _) D' _ _, num_put (num_put NV C _ _) D' _ _, ?_⟩
 exact (((HB.setCell (p := ⟨w.heap.size + 1 + 1, 0, none⟩) (by simp; omega) _).setCell (p := ⟨w.heap.size + 1 + 1, 1, none⟩) (by simp; omega) _).setCell (p := ⟨w.heap.size + 1 + 1 + 1, 0, none⟩) (by simp; omega) _).setCell (p := ⟨w.heap.size + 1 + 1 + 1, 1, none⟩) (by simp; omega) _
theorem div_drawn {w W : World} {k : Nat} {x y : Int} {e : Ending} (h : Div2P k x y w e W) : Div2P k x y w e W.drew := by
 obtain ⟨s2, o2, n2, c2, d2, s3, o3, n3, c3, d3, e, h1, h2, hB⟩ := h
 exact ⟨s2, o2, n2, c2, d2, s3, o3, n3, c3, d3, e, num_drawn h1, num_drawn h2, hB.drew⟩
theorem div_alloc {w W : World} {k : Nat} {x y : Int} {e : Ending} (h : Div2P k x y w e W) (o : Obj) : Div2P k x y w e (W.alloc o) := by
 obtain ⟨s2, o2, n2, c2, d2, s3, o3, n3, c3, d3, e, h1, h2, hB⟩ := h
 exact ⟨s2, o2, n2, c2, d2, s3, o3, n3, c3, d3, e, h1.below ((Below.refl _ _).alloc (Nat.le_refl _) o), h2.below ((Below.refl _ _).alloc (Nat.le_refl _) o), hB.alloc hB.size o⟩
theorem div_any (s t : Bool) (ao bo : Option Addr) (n m ca cb k : Nat) (xs ys : List Int) (x y : Int) (w : World) (hx : IsNum w s ao n ca xs x k) (hy : IsNum w t bo m cb ys y k) (hk : k ≤ 9000) (hy0 : y ≠ 0) :
   Calls Tryz.prog 109 #[.agg #[.bool s, .slice ao n ca], .agg #[.bool t, .slice bo m cb]] w (Div2P k x y w) := by
 obtain ⟨Q, R, eQ, eR, hQ0, hR0, hR1, hqr⟩ := div_parts x y hy0
 have DS := div_signs hy0 hR0 hR1 hqr
 have hs : Hid (s = decide (x < 0)) := hx.neg
 have ht : Hid (t = decide (y < 0)) := hy.neg
 have A := (((Blk.new w [.bool s, .slice ao n ca] 73 rfl).alloc (.cells #[.bool t, .slice bo m cb] 73)).alloc (.cells #[.bool false, .slice none 0 0] 73)).alloc (.cells #[.bool false, .slice none 0 0] 73)
 have B := ((Blk.new (w.alloc (.cells #[.bool s, .slice ao n ca] 73)) [.bool t, .slice bo m cb] 73 (g := w.heap.size + 1) (by simp)).alloc (.cells #[.bool false, .slice none 0 0] 73)).alloc (.cells #[.bool false, .slice none 0 0] 73)
 have C := (Blk.new ((w.alloc (.cells #[.bool s, .slice ao n ca] 73)).alloc (.cells #[.bool t, .slice bo m cb] 73)) [.bool false, .slice none 0 0] 73 (g := w.heap.size + 1 + 1) (by simp)).alloc (.cells #[.bool false, .slice none 0 0] 73)
 have D := Blk.new (((w.alloc (.cells #[.bool s, .slice ao n ca] 73)).alloc (.cells #[.bool t, .slice bo m cb] 73)).alloc (.cells #[.bool false, .slice none 0 0] 73)) [.bool false, .slice none 0 0] 73 (g := w.heap.size + 1 + 1 + 1) (by simp)
 have HB0 : Below w.heap.size w ((((w.alloc (.cells #[.bool s, .slice ao n ca] 73)).alloc (.cells #[.bool t, .slice bo m cb] 73)).alloc (.cells #[.bool false, .slice none 0 0] 73)).alloc (.cells #[.bool false, .slice none 0 0] 73)) := ((((Below.refl _ _).alloc (Nat.le_refl _) _).alloc (by simp) _).alloc (by simp; omega) _).alloc (by simp; omega) _
 replace hx := hx.below HB0
 replace hy := hy.below HB0
 have hyp : 0 < val ys := by rw [hy.val]; omega
 go_enter Tryz.func109, Tryz.ntmps109
 go_wp2_with fail
 refine (divAbs_any ao bo n m ca cb xs ys _ hx.len hy.len hx.nrm hy.nrm hx.rd hy.rd hx.cap (by have := hx.le; omega) (by have := hy.le; omega) hyp).mono ?_
 rintro e w1 ⟨qo, qn, qc, qs, ro, rn, rc, rs, rfl, ⟨a1, a2, a3, a4, a5, a6⟩, ⟨b1, b2, b3, b4, b5, b6⟩, hB⟩
 rw [hx.val, hy.val] at a5 b5
 rw [eQ] at a5
 rw [eR] at b5
 have hnk := hx.le
 replace hy := hy.below hB
 replace A := A.step hB; replace B := B.step hB; replace C := C.step hB; replace D := D.step hB
 have HB1 : Below w.heap.size w w1 := HB0.trans (hB.mono HB0.size)
 clear hB HB0 hx hyp
 obtain ⟨p0, p1⟩ := A.cs2; have pl := A.lt; obtain ⟨q0, q1⟩ := B.cs2; have ql := B.lt
 go_wp2_with fail
 refine (trim_any _ qo qn qc qs _ a1 a2 a4.1 a6 (by omega)).mono ?_
 rintro e w2 ⟨s2, o2, n2, c2, d2, rfl, t1, t2, t3, t4, t5, t6, t7, hB⟩
 have NU : IsNum w2 s2 o2 n2 c2 d2 (if s = t then Q else -Q) (k + 1) := num_of t1 t2 (by omega) t4 (t5.trans a5) (by rw [t6, a5]) t7 (by split <;> omega) (by intro hz; cases s <;> cases t <;> simp at hz ⊢ <;> omega)
 replace b6 := b6.below hB (Nat.le_refl _)
 replace hy := hy.below hB
 replace A := A.step hB; replace B := B.step hB; replace C := C.step hB; replace D := D.step hB
 have HB2 : Below w.heap.size w w2 := HB1.trans (hB.mono HB1.size)
 clear hB HB1 t1 t2 t3 t4 t5 t6 t7 a1 a2 a3 a4 a5 a6 p0 p1 pl q0 q1 ql
 obtain ⟨p0, p1⟩ := A.cs2; have pl := A.lt; obtain ⟨q0, q1⟩ := B.cs2; have ql := B.lt
 have hDU := D.lt
 have U := Blk.new w2 [.bool s2, .slice o2 n2 c2] 73 rfl
 have hal : Below w2.heap.size w2 (w2.alloc (.cells #[.bool s2, .slice o2 n2 c2] 73)) := (Below.refl _ _).alloc (Nat.le_refl _) _
 replace A := A.step hal; replace B := B.step hal; replace C := C.step hal; replace D := D.step hal
 replace NU := NU.below hal
 replace hy := hy.below hal
 replace b6 := b6.below hal (Nat.le_refl _)
 replace HB2 := HB2.alloc HB2.size (.cells #[.bool s2, .slice o2 n2 c2] 73)
 clear hal
 go_wp2_with fail
 refine (trim_any s ro rn rc rs _ b1 b2 b4.1 b6 (by omega)).mono ?_
 rintro e w3 ⟨s3, o3, n3, c3, d3, rfl, t1, t2, t3, t4, t5, t6, t7, hB⟩
 have NV : IsNum w3 s3 o3 n3 c3 d3 (if s then -R else R) (k + 1) := num_of t1 t2 (by omega) t4 (t5.trans b5) (by rw [t6, b5]) t7 (by split <;> omega) (by intro hz; cases s <;> simp at hz ⊢ <;> omega)
 replace hy := hy.below hB
 replace NU := NU.below hB
 replace A := A.step hB; replace B := B.step hB; replace C := C.step hB; replace D := D.step hB; replace U := U.step hB
 have HB3 : Below w.heap.size w w3 := HB2.trans (hB.mono HB2.size)
 have hUl := U.lt; have hBl := B.lt; have hCl := C.lt; have hDl := D.lt
 have nBU : w.heap.size + 1 + 1 + 1 < w2.heap.size := hDU
 clear hB HB2 t1 t2 t3 t4 t5 t6 t7 b1 b2 b3 b4 b5 b6 p0 p1 pl q0 q1 ql
 obtain ⟨q0, q1⟩ := B.cs2; have ql := B.lt; obtain ⟨u0, uf0, u1, uf1⟩ := U.cf2; have ul := U.lt; obtain ⟨c0, cf0, c1, cf1⟩ := C.cf2; have cl := C.lt; obtain ⟨d0, df0, d1, df1⟩ := D.cf2; have dl := D.lt
 have NU3 := NU; have NV3 := NV; have C3 := C; have D3 := D; have HB3' := HB3
 have V := Blk.new w3 [.bool s3, .slice o3 n3 c3] 73 rfl
 have hal : Below w3.heap.size w3 (w3.alloc (.cells #[.bool s3, .slice o3 n3 c3] 73)) := (Below.refl _ _).alloc (Nat.le_refl _) _
 replace B := B.step hal; replace C := C.step hal; replace D := D.step hal; replace U := U.step hal
 replace NU := NU.below hal
 replace NV := NV.below hal
 replace hy := hy.below hal
 have HB4 := HB3.alloc HB3.size (.cells #[.bool s3, .slice o3 n3 c3] 73)
 have nUV : w2.heap.size < w3.heap.size := hUl
 clear hal HB3
 have hneg := NV.neg
 by_cases hv : s3 = true
 · subst hv
   have es : s = true := by
     apply Decidable.byContradiction
     intro h
     rw [Bool.eq_false_iff.2 h] at hneg
     simp at hneg
     omega
   have hRp : 0 < R := by rw [es] at hneg; simp at hneg; exact hneg
   have hx0 : x < 0 := by have := hs.out; rw [es] at this; simpa using this.symm
   subst es
   obtain ⟨-, -, -, -, D5, D6⟩ := DS
   have J : ∀ W, Below (w3.alloc (.cells #[.bool true, .slice o3 n3 c3] 73)).heap.size (w3.alloc (.cells #[.bool true, .slice o3 n3 c3] 73)) W → (Blk W (w.heap.size + 1) [.bool t, .slice bo m cb] ∧ Blk W (w.heap.size + 1 + 1) [.bool false, .slice none 0 0] ∧ Blk W (w.heap.size + 1 + 1 + 1) [.bool false, .slice none 0 0] ∧ Blk W w2.heap.size [.bool s2, .slice o2 n2 c2] ∧ Blk W w3.heap.size [.bool true, .slice o3 n3 c3]) ∧ IsNum W s2 o2 n2 c2 d2 (if true = t then Q else -Q) (k + 1) ∧ IsNum W true o3 n3 c3 d3 (-R) (k + 1) ∧ IsNum W t bo m cb ys y k ∧ Below w.heap.size w W :=
     fun W h => ⟨⟨B.step h, C.step h, D.step h, U.step h, V.step h⟩, NU.below h, by simpa using NV.below h, hy.below h, HB4.trans (h.mono HB4.size)⟩
   clear NU NV NU3 NV3 C3 D3 HB3' A B C D U V HB4 hy hneg hs
   cases t
   · have hyp : 0 < y := by have := ht.out; simp at this; omega
     go_upto_region 8 with fail
     generalize w3.alloc (.cells #[.bool true, .slice o3 n3 c3] 73) = W0 at *
     obtain ⟨⟨jb, jc, jd, ju, jv⟩, jn, jr, jy, jB⟩ := J W0 (Below.refl _ _)
     clear u0 u1 uf0 uf1 ul q0 q1 ql c0 c1 cf0 cf1 cl d0 d1 df0 df1 dl
     obtain ⟨u0, uf0, u1, uf1⟩ := ju.cf2; have ul := ju.lt
     go_region_with ((first
       | (go_at_call 67; refine (int_any 1 _ (by decide) (by decide)).mono ?_; rintro e w5 ⟨s5, o5, n5, c5, d5, rfl, N5, hB⟩; have K5 : Below W0.heap.size W0 w5 := ((Below.refl _ _).drew).trans hB; obtain ⟨⟨ib, ic, id', iu, iv⟩, jn5, ir, iy, iB⟩ := J w5 K5; obtain ⟨h0, hf0, h1, hf1⟩ := iu.cf2; have hl := iu.lt; clear hB)
       | (go_at_call 120; refine (sub_any s2 s5 o2 o5 n2 n5 c2 c5 (k + 2) d2 d5 _ _ _ (num_more jn5 (by omega)) (num_more N5 (by omega)) (by omega)).mono ?_; rintro e w6 ⟨s6, o6, n6, c6, d6, rfl, N6, hB⟩; have K6 : Below W0.heap.size W0 w6 := K5.trans (hB.mono K5.size); obtain ⟨⟨lb, lc, ld, lu, lv⟩, ln, lr, ly, lB⟩ := J w6 K6; obtain ⟨i0, if0, i1, if1⟩ := lu.cf2; have il := lu.lt; clear hB)))
     all_goals have g1 : w.heap.size + 1 ≠ w2.heap.size := by omega
     all_goals have g2 : w.heap.size + 1 + 1 ≠ w2.heap.size := by omega
     all_goals have g3 : w.heap.size + 1 + 1 + 1 ≠ w2.heap.size := by omega
     all_goals have g4 : w3.heap.size ≠ w2.heap.size := by omega
     all_goals have B6 := ((lb.setO (p := ⟨w2.heap.size, 0, none⟩) (by exact g1) (.bool s6)).setO (p := ⟨w2.heap.size, 1, none⟩) (by exact g1) (.slice o6 n6 c6))
     all_goals have C6 := ((lc.setO (p := ⟨w2.heap.size, 0, none⟩) (by exact g2) (.bool s6)).setO (p := ⟨w2.heap.size, 1, none⟩) (by exact g2) (.slice o6 n6 c6))
     all_goals have D6' := ((ld.setO (p := ⟨w2.heap.size, 0, none⟩) (by exact g3) (.bool s6)).setO (p := ⟨w2.heap.size, 1, none⟩) (by exact g3) (.slice o6 n6 c6))
     all_goals have V6 := ((lv.setO (p := ⟨w2.heap.size, 0, none⟩) (by exact g4) (.bool s6)).setO (p := ⟨w2.heap.size, 1, none⟩) (by exact g4) (.slice o6 n6 c6))
     all_goals have M6 := num_put N6 lu (.bool s6) (.slice o6 n6 c6)
     all_goals have R6 := num_put lr lu (.bool s6) (.slice o6 n6 c6)
     all_goals have Y6 := num_put ly lu (.bool s6) (.slice o6 n6 c6)
     all_goals have U6 := (lu.setI 0 (by simp) (.bool s6)).setI 1 (by simp) (.slice o6 n6 c6)
     all_goals have L6 := (lB.setCell (p := ⟨w2.heap.size, 0, none⟩) (by simp; omega) (.bool s6)).setCell (p := ⟨w2.heap.size, 1, none⟩) (by simp; omega) (.slice o6 n6 c6)
     all_goals clear u0 u1 uf0 uf1 ul h0 h1 hf0 hf1 hl i0 i1 if0 if1 il jb jc jd ju jv jn jr jy jB ib ic id' iu iv jn5 ir iy iB lb lc ld lu lv ln lr ly lB N5 N6 K5 K6 J
     all_goals generalize ((w6.setCell ⟨w2.heap.size, 0, none⟩ (.bool s6)).setCell ⟨w2.heap.size, 1, none⟩ (.slice o6 n6 c6)) = W6 at *
     all_goals (obtain ⟨v0, v1⟩ := V6.cs2; have vl := V6.lt; obtain ⟨x0, x1⟩ := B6.cs2; have xl := B6.lt)
     all_goals go_wp2_with fail
     all_goals refine (add_any true false o3 bo n3 m c3 cb (k + 1) d3 ys _ _ _ R6 (num_more Y6 (by omega)) (by omega)).mono ?_
     all_goals rintro e w7 ⟨s7, o7, n7, c7, d7, rfl, N7, hB⟩
     all_goals (replace C6 := C6.step hB; replace D6' := D6'.step hB; replace V6 := V6.step hB; replace U6 := U6.step hB; replace M6 := M6.below hB; replace L6 := L6.trans (hB.mono L6.size))
     all_goals clear hB v0 v1 vl x0 x1 xl
     all_goals have g5 : w.heap.size + 1 + 1 ≠ w3.heap.size := by omega
     all_goals have g6 : w.heap.size + 1 + 1 + 1 ≠ w3.heap.size := by omega
     all_goals have g7 : w2.heap.size ≠ w3.heap.size := by omega
     all_goals (obtain ⟨v0, vf0, v1, vf1⟩ := V6.cf2; have vl := V6.lt)
     all_goals have C7 := ((C6.setO (p := ⟨w3.heap.size, 0, none⟩) (by exact g5) (.bool s7)).setO (p := ⟨w3.heap.size, 1, none⟩) (by exact g5) (.slice o7 n7 c7))
     all_goals have D7 := ((D6'.setO (p := ⟨w3.heap.size, 0, none⟩) (by exact g6) (.bool s7)).setO (p := ⟨w3.heap.size, 1, none⟩) (by exact g6) (.slice o7 n7 c7))
     all_goals have U7 := ((U6.setO (p := ⟨w3.heap.size, 0, none⟩) (by exact g7) (.bool s7)).setO (p := ⟨w3.heap.size, 1, none⟩) (by exact g7) (.slice o7 n7 c7))
     all_goals have M7 := num_put M6 V6 (.bool s7) (.slice o7 n7 c7)
     all_goals have P7 := num_put N7 V6 (.bool s7) (.slice o7 n7 c7)
     all_goals have L7 := (L6.setCell (p := ⟨w3.heap.size, 0, none⟩) (by simp; omega) (.bool s7)).setCell (p := ⟨w3.heap.size, 1, none⟩) (by simp; omega) (.slice o7 n7 c7)
     all_goals obtain ⟨E1, E2⟩ := D5 hx0 hRp hyp
     all_goals rw [show (if true = false then Q else -Q) - 1 = x / y by rw [E1]; simp] at M7
     all_goals rw [show -R + y = x % y by rw [E2]] at P7
     all_goals have F := div_done (k := k) L7 M7 (num_more P7 (Nat.le_succ _)) C7 D7
     all_goals (obtain ⟨c0, cf0, c1, cf1⟩ := C7.cf2; have cl := C7.lt; obtain ⟨d0, df0, d1, df1⟩ := D7.cf2; have dl := D7.lt; obtain ⟨u0, u1⟩ := U7.cs2; have ul := U7.lt)
     all_goals clear C6 D6' V6 U6 M6 L6 C7 D7 U7 M7 P7 L7 N7 g1 g2 g3 g4 g5 g6 g7
     all_goals go_wp2
     all_goals go_region
     all_goals go_wp2
     all_goals refine bodyPost_ret (v := .tuple #[.agg #[.bool s6, .slice o6 n6 c6], .agg #[.bool s7, .slice o7 n7 c7]]) (by simp [results, Tryz.results109, go_sem, c0, c1, d0, d1]) rfl ?_
     all_goals exact div_drawn F
   · have hyp : y < 0 := by have := ht.out; simpa using this.symm
     go_upto_region 6 with fail
     generalize w3.alloc (.cells #[.bool true, .slice o3 n3 c3] 73) = W0 at *
     obtain ⟨⟨jb, jc, jd, ju, jv⟩, jn, jr, jy, jB⟩ := J W0 (Below.refl _ _)
     clear u0 u1 uf0 uf1 ul q0 q1 ql c0 c1 cf0 cf1 cl d0 d1 df0 df1 dl
     obtain ⟨u0, uf0, u1, uf1⟩ := ju.cf2; have ul := ju.lt
     go_region_with ((first
       | (go_at_call 67; refine (int_any 1 _ (by decide) (by decide)).mono ?_; rintro e w5 ⟨s5, o5, n5, c5, d5, rfl, N5, hB⟩; have K5 : Below W0.heap.size W0 w5 := ((Below.refl _ _).drew).trans hB; obtain ⟨⟨ib, ic, id', iu, iv⟩, jn5, ir, iy, iB⟩ := J w5 K5; obtain ⟨h0, hf0, h1, hf1⟩ := iu.cf2; have hl := iu.lt; clear hB)
       | (go_at_call 89; refine (add_any s2 s5 o2 o5 n2 n5 c2 c5 (k + 2) d2 d5 _ _ _ (num_more jn5 (by omega)) (num_more N5 (by omega)) (by omega)).mono ?_; rintro e w6 ⟨s6, o6, n6, c6, d6, rfl, N6, hB⟩; have K6 : Below W0.heap.size W0 w6 := K5.trans (hB.mono K5.size); obtain ⟨⟨lb, lc, ld, lu, lv⟩, ln, lr, ly, lB⟩ := J w6 K6; obtain ⟨i0, if0, i1, if1⟩ := lu.cf2; have il := lu.lt; clear hB)))
     all_goals have g1 : w.heap.size + 1 ≠ w2.heap.size := by omega
     all_goals have g2 : w.heap.size + 1 + 1 ≠ w2.heap.size := by omega
     all_goals have g3 : w.heap.size + 1 + 1 + 1 ≠ w2.heap.size := by omega
     all_goals have g4 : w3.heap.size ≠ w2.heap.size := by omega
     all_goals have B6 := ((lb.setO (p := ⟨w2.heap.size, 0, none⟩) (by exact g1) (.bool s6)).setO (p := ⟨w2.heap.size, 1, none⟩) (by exact g1) (.slice o6 n6 c6))
     all_goals have C6 := ((lc.setO (p := ⟨w2.heap.size, 0, none⟩) (by exact g2) (.bool s6)).setO (p := ⟨w2.heap.size, 1, none⟩) (by exact g2) (.slice o6 n6 c6))
     all_goals have D6' := ((ld.setO (p := ⟨w2.heap.size, 0, none⟩) (by exact g3) (.bool s6)).setO (p := ⟨w2.heap.size, 1, none⟩) (by exact g3) (.slice o6 n6 c6))
     all_goals have V6 := ((lv.setO (p := ⟨w2.heap.size, 0, none⟩) (by exact g4) (.bool s6)).setO (p := ⟨w2.heap.size, 1, none⟩) (by exact g4) (.slice o6 n6 c6))
     all_goals have M6 := num_put N6 lu (.bool s6) (.slice o6 n6 c6)
     all_goals have R6 := num_put lr lu (.bool s6) (.slice o6 n6 c6)
     all_goals have Y6 := num_put ly lu (.bool s6) (.slice o6 n6 c6)
     all_goals have U6 := (lu.setI 0 (by simp) (.bool s6)).setI 1 (by simp) (.slice o6 n6 c6)
     all_goals have L6 := (lB.setCell (p := ⟨w2.heap.size, 0, none⟩) (by simp; omega) (.bool s6)).setCell (p := ⟨w2.heap.size, 1, none⟩) (by simp; omega) (.slice o6 n6 c6)
     all_goals clear u0 u1 uf0 uf1 ul h0 h1 hf0 hf1 hl i0 i1 if0 if1 il jb jc jd ju jv jn jr jy jB ib ic id' iu iv jn5 ir iy iB lb lc ld lu lv ln lr ly lB N5 N6 K5 K6 J
     all_goals generalize ((w6.setCell ⟨w2.heap.size, 0, none⟩ (.bool s6)).setCell ⟨w2.heap.size, 1, none⟩ (.slice o6 n6 c6)) = W6 at *
     all_goals (obtain ⟨v0, v1⟩ := V6.cs2; have vl := V6.lt; obtain ⟨x0, x1⟩ := B6.cs2; have xl := B6.lt)
     all_goals go_wp2_with fail
     all_goals refine (sub_any true true o3 bo n3 m c3 cb (k + 1) d3 ys _ _ _ R6 (num_more Y6 (by omega)) (by omega)).mono ?_
     all_goals rintro e w7 ⟨s7, o7, n7, c7, d7, rfl, N7, hB⟩
     all_goals (replace C6 := C6.step hB; replace D6' := D6'.step hB; replace V6 := V6.step hB; replace U6 := U6.step hB; replace M6 := M6.below hB; replace L6 := L6.trans (hB.mono L6.size))
     all_goals clear hB v0 v1 vl x0 x1 xl
     all_goals have g5 : w.heap.size + 1 + 1 ≠ w3.heap.size := by omega
     all_goals have g6 : w.heap.size + 1 + 1 + 1 ≠ w3.heap.size := by omega
     all_goals have g7 : w2.heap.size ≠ w3.heap.size := by omega
     all_goals (obtain ⟨v0, vf0, v1, vf1⟩ := V6.cf2; have vl := V6.lt)
     all_goals have C7 := ((C6.setO (p := ⟨w3.heap.size, 0, none⟩) (by exact g5) (.bool s7)).setO (p := ⟨w3.heap.size, 1, none⟩) (by exact g5) (.slice o7 n7 c7))
     all_goals have D7 := ((D6'.setO (p := ⟨w3.heap.size, 0, none⟩) (by exact g6) (.bool s7)).setO (p := ⟨w3.heap.size, 1, none⟩) (by exact g6) (.slice o7 n7 c7))
     all_goals have U7 := ((U6.setO (p := ⟨w3.heap.size, 0, none⟩) (by exact g7) (.bool s7)).setO (p := ⟨w3.heap.size, 1, none⟩) (by exact g7) (.slice o7 n7 c7))
     all_goals have M7 := num_put M6 V6 (.bool s7) (.slice o7 n7 c7)
     all_goals have P7 := num_put N7 V6 (.bool s7) (.slice o7 n7 c7)
     all_goals have L7 := (L6.setCell (p := ⟨w3.heap.size, 0, none⟩) (by simp; omega) (.bool s7)).setCell (p := ⟨w3.heap.size, 1, none⟩) (by simp; omega) (.slice o7 n7 c7)
     all_goals obtain ⟨E1, E2⟩ := D6 hx0 hRp hyp
     all_goals rw [show (if True then Q else -Q) + 1 = x / y by rw [E1]; simp] at M7
     all_goals rw [show -R - y = x % y by rw [E2]] at P7
     all_goals have F := div_done (k := k) L7 M7 (num_more P7 (Nat.le_succ _)) C7 D7
     all_goals (obtain ⟨c0, cf0, c1, cf1⟩ := C7.cf2; have cl := C7.lt; obtain ⟨d0, df0, d1, df1⟩ := D7.cf2; have dl := D7.lt; obtain ⟨u0, u1⟩ := U7.cs2; have ul := U7.lt)
     all_goals clear C6 D6' V6 U6 M6 L6 C7 D7 U7 M7 P7 L7 N7 g1 g2 g3 g4 g5 g6 g7
     all_goals go_wp2
     all_goals go_region
     all_goals go_wp2
     all_goals refine bodyPost_ret (v := .tuple #[.agg #[.bool s6, .slice o6 n6 c6], .agg #[.bool s7, .slice o7 n7 c7]]) (by simp [results, Tryz.results109, go_sem, c0, c1, d0, d1]) rfl ?_
     all_goals exact div_drawn F
 · have hv := Bool.eq_false_iff.2 hv
   subst hv
   have hres : (if s = t then Q else -Q) = x / y ∧ (if s then -R else R) = x % y := by
     have hs := hs.out
     have ht := ht.out
     obtain ⟨D1, D2, D3, D4, -, -⟩ := DS
     by_cases hx0 : x < 0
     · have es : s = true := by rw [hs]; simp [hx0]
       have hR : R = 0 := by rw [es] at hneg; simp at hneg; omega
       by_cases hy1 : y < 0
       · have et : t = true := by rw [ht]; simp [hy1]
         obtain ⟨e1, e2⟩ := D4 hx0 hR hy1
         rw [e1, e2, es, et, hR]; simp
       · have et : t = false := by rw [ht]; simp [hy1]
         obtain ⟨e1, e2⟩ := D3 hx0 hR (by omega)
         rw [e1, e2, es, et, hR]; simp
     · have es : s = false := by rw [hs]; simp [hx0]
       by_cases hy1 : y < 0
       · have et : t = true := by rw [ht]; simp [hy1]
         obtain ⟨e1, e2⟩ := D2 (by omega) hy1
         rw [e1, e2, es, et]; simp
       · have et : t = false := by rw [ht]; simp [hy1]
         obtain ⟨e1, e2⟩ := D1 (by omega) (by omega)
         rw [e1, e2, es, et]; simp
   rw [hres.1] at NU3
   rw [hres.2] at NV3
   have F := div_alloc (div_done HB3' (num_more NU3 (Nat.add_le_add_left (by decide) k)) (num_more NV3 (Nat.add_le_add_left (by decide) k)) C3 D3) (.cells #[.bool false, .slice o3 n3 c3] 73)
   clear hres hneg DS NU NV NU3 NV3 C3 D3 HB3' A B C D U V HB4
   go_wp2
   go_region
   all_goals go_wp2
   all_goals refine bodyPost_ret (v := .tuple #[.agg #[.bool s2, .slice o2 n2 c2], .agg #[.bool false, .slice o3 n3 c3]]) (by simp [results, Tryz.results109, go_sem, World.cell?_alloc_past, c0, c1, d0, d1, cl, dl]) rfl ?_
   all_goals exact div_drawn F
theorem IsNum.step {w w' : World} {s : Bool} {ao : Option Addr} {n cap : Nat} {ds : List Int} {z : Int} {k : Nat} (h : IsNum w s ao n cap ds z k) (hb : Below w.heap.size w w') : IsNum w' s ao n cap ds z k := h.below hb
theorem IsNum.alloc {w : World} {s : Bool} {ao : Option Addr} {n cap : Nat} {ds : List Int} {z : Int} {k : Nat} (h : IsNum w s ao n cap ds z k) (o : Obj) : IsNum (w.alloc o) s ao n cap ds z k := h.below ((Below.refl _ _).alloc (Nat.le_refl _) o)
theorem Blk.set2 {W : World} {vs : List Value} {v0 v1 : Value} {g g' : Nat} (G : Blk W g' vs) (hg : g' ≠ g) : Blk ((W.setCell ⟨g, 0, none⟩ v0).setCell ⟨g, 1, none⟩ v1) g' vs := (G.setO (by exact hg) _).setO (by exact hg) _
theorem Blk.stored2 {W : World} {g : Nat} {z0 z1 : Value} (G : Blk W g [z0, z1]) (v0 v1 : Value) : Blk ((W.setCell ⟨g, 0, none⟩ v0).setCell ⟨g, 1, none⟩ v1) g [v0, v1] := (G.setI 0 (by simp) v0).setI 1 (by simp) v1
theorem mk_cells {s : Bool} {o : Option Addr} {n c : Nat} {W : World} {g : Nat} (G : Blk W g [.bool s, .slice o n c]) : (fun w' => w'.cell? ⟨g, 0, none⟩ = some (.bool s) ∧ w'.cell? ⟨g, 1, none⟩ = some (.slice o n c)) W := ⟨G.c 0 rfl, G.c 1 rfl⟩
theorem eqW4 (a3 a2 a1 a0 b3 b2 b1 b0 : Int) (w : World) : (Op.equalIn 9999 32 (.agg #[.int .u64 a3, .int .u64 a2, .int .u64 a1, .int .u64 a0]) (.agg #[.int .u64 b3, .int .u64 b2, .int .u64 b1, .int .u64 b0])).run Tryz.prog w = .ok (a3 == b3 && a2 == b2 && a1 == b1 && a0 == b0) w := by
 have u3 := Tryz.underlying30
 have a3' := Tryz.isAgg30
 have z3 := Tryz.sizeOf30
 rw [show (9999 : Nat) = 9998 + 1 from rfl, Op.equalIn]
 simp only [Sem.run_bind, run_underlying Tryz.underlying32, Result.andThen_ok]
 go_simp
 by_cases h3 : a3 = b3
 · subst h3
   by_cases h2 : a2 = b2
   · subst h2
     by_cases h1 : a1 = b1
     · subst h1
       by_cases h0 : a0 = b0
       · subst h0
         simp
       · simp [h0]
     · simp [h1]
   · simp [h2]
 · simp [h3]
theorem eqWW (x u : Int) (hx : told x = true) (hu : told u = true) (w : World) : (Op.equalIn 9999 32 (W4 x) (W4 u)).run Tryz.prog w = .ok (decide (x = u)) w := by
 rw [eqW4]
 congr 1
 rw [Bool.eq_iff_iff]
 simp only [Bool.and_eq_true, beq_iff_eq, decide_eq_true_eq]
 constructor
 · rintro ⟨⟨⟨e3, e2⟩, e1⟩, e0⟩
   rw [← ww_sw hx, ← ww_sw hu, e3, e2, e1, e0]
 · rintro rfl
   exact ⟨⟨⟨rfl, rfl⟩, rfl⟩, rfl⟩
theorem eqPV (x y z u v t : Int) (hx : told x = true) (hy : told y = true) (hz : told z = true) (hu : told u = true) (hv : told v = true) (ht : told t = true) (w : World) : (Op.equalIn 10000 40 (PV x y z) (PV u v t)).run Tryz.prog w = .ok (decide (x = u) && decide (y = v) && decide (z = t)) w := by
 have E1 := eqWW x u hx hu
 have E2 := eqWW y v hy hv
 have E3 := eqWW z t hz ht
 have u3 := Tryz.underlying32
 have a3 := Tryz.isAgg32
 have z3 := Tryz.sizeOf32
 rw [show (10000 : Nat) = 9999 + 1 from rfl, Op.equalIn]
 simp only [Sem.run_bind, run_underlying Tryz.underlying40, Result.andThen_ok]
 go_simp
 by_cases h1 : x = u
 · by_cases h2 : y = v
   · by_cases h3 : z = t
     · simp [h1, h2, h3]
     · simp [h1, h2, h3]
   · simp [h1, h2]
 · simp [h1]
theorem sm_lt {a : Int} (h : small a = true) : (a.natAbs : Int) ≤ 1208925819614629174706176 := by
 unfold small at h
 rw [decide_eq_true_iff] at h
 omega
theorem abs_mul {a b : Int} {m n : Nat} (ha : a.natAbs ≤ m) (hb : b.natAbs ≤ n) : (a * b).natAbs ≤ m * n := by
 rw [Int.natAbs_mul]
 exact Nat.mul_le_mul ha hb
theorem sm_prod {a b : Int} (ha : small a = true) (hb : small b = true) : (a * b).natAbs ≤ 1461501637330902918203684832716283019655932542976 := by
 have := abs_mul (show a.natAbs ≤ 1208925819614629174706176 by have := sm_lt ha; omega) (show b.natAbs ≤ 1208925819614629174706176 by have := sm_lt hb; omega)
 omega
theorem lr_abs {a : Int} (h : a.natAbs ≤ 3273390607896141870013189696827599152216642046043064789483291368096133796404674554883270092325904157150886684127560071009217256545885393053328527589376) : LR a := by
 unfold LR
 omega
theorem told_of {a : Int} (h : a.natAbs ≤ 1809251394333065553493296640760748560207343510400633813116524750123642650624) : told a = true := by
 unfold told
 apply decide_eq_true
 omega
theorem cmp_sub (a b : Int) : cmpI (a - b) 0 = cmpI a b := by
 rcases Int.lt_trichotomy a b with h | h | h
 · rw [cmpI_lt h, cmpI_lt (by omega)]
 · rw [cmpI_eq h, cmpI_eq (by omega)]
 · rw [cmpI_gt h, cmpI_gt (by omega)]
theorem minor_sm (a b c d : Int) (ha : small a = true) (hb : small b = true) (hc : small c = true) (hd : small d = true) (w : World) : Calls Tryz.prog 42 #[W4 a, W4 b, W4 c, W4 d] w (VP (W4 (a * d - b * c)) w) := by
 have h1 := sm_prod ha hd
 have h2 := sm_prod hb hc
 exact minor_det a b c d (told_small ha) (told_small hb) (told_small hc) (told_small hd) (lr_abs (by omega)) (lr_abs (by omega)) (told_of (by omega)) w
theorem minor_abs {a b c d : Int} (ha : small a = true) (hb : small b = true) (hc : small c = true) (hd : small d = true) : (a * d - b * c).natAbs ≤ 2923003274661805836407369665432566039311865085952 := by
 have h1 := sm_prod ha hd
 have h2 := sm_prod hb hc
 omega
theorem byX_det (x y z u v t : Int) (sx : small x = true) (sz : small z = true) (su : small u = true) (st : small t = true) (w : World) : Calls Tryz.prog 92 #[PV x y z, PV u v t] w (VP (.int .i64 (cmpI (x * t) (u * z))) w) := by
 have T0 : ArgsB w ((w.alloc (.cells #[.int .u64 (ww3 x), .int .u64 (ww2 x), .int .u64 (ww1 x), .int .u64 (ww0 x), .int .u64 (ww3 y), .int .u64 (ww2 y), .int .u64 (ww1 y), .int .u64 (ww0 y), .int .u64 (ww3 z), .int .u64 (ww2 z), .int .u64 (ww1 z), .int .u64 (ww0 z)] 40)).alloc (.cells #[.int .u64 (ww3 u), .int .u64 (ww2 u), .int .u64 (ww1 u), .int .u64 (ww0 u), .int .u64 (ww3 v), .int .u64 (ww2 v), .int .u64 (ww1 v), .int .u64 (ww0 v), .int .u64 (ww3 t), .int .u64 (ww2 t), .int .u64 (ww1 t), .int .u64 (ww0 t)] 40)) [[.int .u64 (ww3 x), .int .u64 (ww2 x), .int .u64 (ww1 x), .int .u64 (ww0 x), .int .u64 (ww3 y), .int .u64 (ww2 y), .int .u64 (ww1 y), .int .u64 (ww0 y), .int .u64 (ww3 z), .int .u64 (ww2 z), .int .u64 (ww1 z), .int .u64 (ww0 z)], [.int .u64 (ww3 u), .int .u64 (ww2 u), .int .u64 (ww1 u), .int .u64 (ww0 u), .int .u64 (ww3 v), .int .u64 (ww2 v), .int .u64 (ww1 v), .int .u64 (ww0 v), .int .u64 (ww3 t), .int .u64 (ww2 t), .int .u64 (ww1 t), .int .u64 (ww0 t)]] := ar2 _ _ _ _ w
 have C1 := minor_sm x z u t sx sz su st
 have C2 := sign_det (x * t - z * u) (told_of (by have := minor_abs sx sz su st; omega))
 rw [cmp_sub, Int.mul_comm z u] at C2
 rw [Int.mul_comm z u] at C1
 clear sx su sz st
 go_enter Tryz.func92, Tryz.ntmps92
 go_wp2_with fail
 refine (C1 _).mono ?_
 rintro e w1 ⟨rfl, hB⟩
 replace T0 := T0.step hB
 clear hB
 go_wp2_with fail
 refine (C2 _).mono ?_
 rintro e w2 ⟨rfl, hB⟩
 have HB := (T0.step hB).below
 clear hB T0 C1 C2
 go_wp2
 go_ret
 exact ⟨rfl, HB⟩
theorem byY_det (x y z u v t : Int) (sy : small y = true) (sz : small z = true) (sv : small v = true) (st : small t = true) (w : World) : Calls Tryz.prog 93 #[PV x y z, PV u v t] w (VP (.int .i64 (cmpI (y * t) (v * z))) w) := by
 have T0 : ArgsB w ((w.alloc (.cells #[.int .u64 (ww3 x), .int .u64 (ww2 x), .int .u64 (ww1 x), .int .u64 (ww0 x), .int .u64 (ww3 y), .int .u64 (ww2 y), .int .u64 (ww1 y), .int .u64 (ww0 y), .int .u64 (ww3 z), .int .u64 (ww2 z), .int .u64 (ww1 z), .int .u64 (ww0 z)] 40)).alloc (.cells #[.int .u64 (ww3 u), .int .u64 (ww2 u), .int .u64 (ww1 u), .int .u64 (ww0 u), .int .u64 (ww3 v), .int .u64 (ww2 v), .int .u64 (ww1 v), .int .u64 (ww0 v), .int .u64 (ww3 t), .int .u64 (ww2 t), .int .u64 (ww1 t), .int .u64 (ww0 t)] 40)) [[.int .u64 (ww3 x), .int .u64 (ww2 x), .int .u64 (ww1 x), .int .u64 (ww0 x), .int .u64 (ww3 y), .int .u64 (ww2 y), .int .u64 (ww1 y), .int .u64 (ww0 y), .int .u64 (ww3 z), .int .u64 (ww2 z), .int .u64 (ww1 z), .int .u64 (ww0 z)], [.int .u64 (ww3 u), .int .u64 (ww2 u), .int .u64 (ww1 u), .int .u64 (ww0 u), .int .u64 (ww3 v), .int .u64 (ww2 v), .int .u64 (ww1 v), .int .u64 (ww0 v), .int .u64 (ww3 t), .int .u64 (ww2 t), .int .u64 (ww1 t), .int .u64 (ww0 t)]] := ar2 _ _ _ _ w
 have C1 := minor_sm y z v t sy sz sv st
 have C2 := sign_det (y * t - z * v) (told_of (by have := minor_abs sy sz sv st; omega))
 rw [cmp_sub, Int.mul_comm z v] at C2
 rw [Int.mul_comm z v] at C1
 clear sy sv sz st
 go_enter Tryz.func93, Tryz.ntmps93
 go_wp2_with fail
 refine (C1 _).mono ?_
 rintro e w1 ⟨rfl, hB⟩
 replace T0 := T0.step hB
 clear hB
 go_wp2_with fail
 refine (C2 _).mono ?_
 rintro e w2 ⟨rfl, hB⟩
 have HB := (T0.step hB).below
 clear hB T0 C1 C2
 go_wp2
 go_ret
 exact ⟨rfl, HB⟩
def ordI (x y z u v t : Int) : Int := if cmpI (x * t) (u * z) = 0 then cmpI (y * t) (v * z) else cmpI (x * t) (u * z)
theorem order_det (x y z u v t : Int) (sx : small x = true) (sy : small y = true) (sz : small z = true) (su : small u = true) (sv : small v = true) (st : small t = true) (w : World) : Calls Tryz.prog 54 #[PV x y z, PV u v t] w (VP (.int .i64 (ordI x y z u v t)) w) := by
 have T0 : ArgsB w ((w.alloc (.cells #[.int .u64 (ww3 x), .int .u64 (ww2 x), .int .u64 (ww1 x), .int .u64 (ww0 x), .int .u64 (ww3 y), .int .u64 (ww2 y), .int .u64 (ww1 y), .int .u64 (ww0 y), .int .u64 (ww3 z), .int .u64 (ww2 z), .int .u64 (ww1 z), .int .u64 (ww0 z)] 40)).alloc (.cells #[.int .u64 (ww3 u), .int .u64 (ww2 u), .int .u64 (ww1 u), .int .u64 (ww0 u), .int .u64 (ww3 v), .int .u64 (ww2 v), .int .u64 (ww1 v), .int .u64 (ww0 v), .int .u64 (ww3 t), .int .u64 (ww2 t), .int .u64 (ww1 t), .int .u64 (ww0 t)] 40)) [[.int .u64 (ww3 x), .int .u64 (ww2 x), .int .u64 (ww1 x), .int .u64 (ww0 x), .int .u64 (ww3 y), .int .u64 (ww2 y), .int .u64 (ww1 y), .int .u64 (ww0 y), .int .u64 (ww3 z), .int .u64 (ww2 z), .int .u64 (ww1 z), .int .u64 (ww0 z)], [.int .u64 (ww3 u), .int .u64 (ww2 u), .int .u64 (ww1 u), .int .u64 (ww0 u), .int .u64 (ww3 v), .int .u64 (ww2 v), .int .u64 (ww1 v), .int .u64 (ww0 v), .int .u64 (ww3 t), .int .u64 (ww2 t), .int .u64 (ww1 t), .int .u64 (ww0 t)]] := ar2 _ _ _ _ w
 have EQ := eqPV x y z u v t (told_small sx) (told_small sy) (told_small sz) (told_small su) (told_small sv) (told_small st)
 have C1 := byX_det x y z u v t sx sz su st
 have C2 := byY_det x y z u v t sy sz sv st
 obtain ⟨B, hB0⟩ : ∃ B, (decide (x = u) && decide (y = v) && decide (z = t)) = B := ⟨_, rfl⟩
 simp only [hB0] at EQ
 clear sx sy sz su sv st
 go_enter Tryz.func54, Tryz.ntmps54
 cases B
 · have HO : Hid (ordI x y z u v t = if cmpI (x * t) (u * z) = 0 then cmpI (y * t) (v * z) else cmpI (x * t) (u * z)) := rfl
   clear hB0
   generalize cmpI (x * t) (u * z) = a at *
   generalize cmpI (y * t) (v * z) = b at *
   go_wp2_with fail
   refine (C1 _).mono ?_
   rintro e w1 ⟨rfl, hB⟩
   replace T0 := T0.step hB
   clear hB
   by_cases ha : a = 0
   · subst ha
     have X0 : Blk _ w.heap.size _ := T0.b 0 rfl; have Y0 : Blk _ (w.heap.size + 1) _ := T0.b 1 rfl; obtain ⟨p0, p1, p2, p3, p4, p5, p6, p7, p8, p9, p10, p11⟩ := X0.cs12; obtain ⟨q0, q1, q2, q3, q4, q5, q6, q7, q8, q9, q10, q11⟩ := Y0.cs12; clear X0 Y0
     go_wp2_with fail
     refine (C2 _).mono ?_
     rintro e w2 ⟨rfl, hB⟩
     have HB := (T0.step hB).below
     clear hB T0 C1 C2 EQ p0 q0 p1 q1 p2 q2 p3 q3 p4 q4 p5 q5 p6 q6 p7 q7 p8 q8 p9 q9 p10 q10 p11 q11
     go_wp2
     go_ret
     exact ⟨by rw [HO.out]; rfl, HB⟩
   · have ha' : (a == 0) = false := beq_eq_false_iff_ne.2 ha
     have HB := T0.below
     clear T0 C1 C2 EQ
     go_wp2
     go_ret
     exact ⟨by rw [HO.out, if_neg ha]; rfl, HB⟩
 · have HO : Hid (ordI x y z u v t = 0) := by
     show _ = _
     simp only [Bool.and_eq_true, decide_eq_true_eq] at hB0
     obtain ⟨⟨rfl, rfl⟩, rfl⟩ := hB0
     unfold ordI
     rw [cmpI_eq rfl, if_pos rfl, cmpI_eq rfl]
   have HB := T0.below
   clear hB0 C1 C2
   have X0 : Blk _ w.heap.size _ := T0.b 0 rfl; have Y0 : Blk _ (w.heap.size + 1) _ := T0.b 1 rfl; obtain ⟨p0, p1, p2, p3, p4, p5, p6, p7, p8, p9, p10, p11⟩ := X0.cs12; obtain ⟨q0, q1, q2, q3, q4, q5, q6, q7, q8, q9, q10, q11⟩ := Y0.cs12; clear X0 Y0
   clear T0
   go_wp2
   go_ret
   exact ⟨by rw [HO.out]; rfl, HB⟩
def ptCmp (x y z u v t : Int) : Int := if ptB x y z && ptB u v t then ordI x y z u v t else 0
theorem ptB_small {x y z : Int} (h : ptB x y z = true) : 0 < z ∧ small x = true ∧ small y = true ∧ small z = true := by
 unfold ptB at h
 simp only [Bool.and_eq_true, decide_eq_true_eq] at h
 exact ⟨h.1.1, h.1.2.1.1, h.1.2.1.2, h.1.2.2⟩
theorem implPointCmp_det (x y z u v t : Int) (hx : told x = true) (hy : told y = true) (hz : told z = true) (hu : told u = true) (hv : told v = true) (ht : told t = true) (w : World) : Calls Tryz.prog 20 #[PV x y z, PV u v t] w (VP (.int .i64 (ptCmp x y z u v t)) w) := by
 have T0 : ArgsB w ((w.alloc (.cells #[.int .u64 (ww3 x), .int .u64 (ww2 x), .int .u64 (ww1 x), .int .u64 (ww0 x), .int .u64 (ww3 y), .int .u64 (ww2 y), .int .u64 (ww1 y), .int .u64 (ww0 y), .int .u64 (ww3 z), .int .u64 (ww2 z), .int .u64 (ww1 z), .int .u64 (ww0 z)] 40)).alloc (.cells #[.int .u64 (ww3 u), .int .u64 (ww2 u), .int .u64 (ww1 u), .int .u64 (ww0 u), .int .u64 (ww3 v), .int .u64 (ww2 v), .int .u64 (ww1 v), .int .u64 (ww0 v), .int .u64 (ww3 t), .int .u64 (ww2 t), .int .u64 (ww1 t), .int .u64 (ww0 t)] 40)) [[.int .u64 (ww3 x), .int .u64 (ww2 x), .int .u64 (ww1 x), .int .u64 (ww0 x), .int .u64 (ww3 y), .int .u64 (ww2 y), .int .u64 (ww1 y), .int .u64 (ww0 y), .int .u64 (ww3 z), .int .u64 (ww2 z), .int .u64 (ww1 z), .int .u64 (ww0 z)], [.int .u64 (ww3 u), .int .u64 (ww2 u), .int .u64 (ww1 u), .int .u64 (ww0 u), .int .u64 (ww3 v), .int .u64 (ww2 v), .int .u64 (ww1 v), .int .u64 (ww0 v), .int .u64 (ww3 t), .int .u64 (ww2 t), .int .u64 (ww1 t), .int .u64 (ww0 t)]] := ar2 _ _ _ _ w
 have R1 := pright_det x y z hx hy hz
 have R2 := pright_det u v t hu hv ht
 clear hx hy hz hu hv ht
 go_enter Tryz.func20, Tryz.ntmps20
 go_wp2_with fail
 refine (R1 _).mono ?_
 rintro e w1 ⟨rfl, hB⟩
 replace T0 := T0.step hB
 clear hB
 by_cases h1 : ptB x y z = true
 · rw [h1]
   have X0 : Blk _ w.heap.size _ := T0.b 0 rfl; have Y0 : Blk _ (w.heap.size + 1) _ := T0.b 1 rfl; obtain ⟨p0, p1, p2, p3, p4, p5, p6, p7, p8, p9, p10, p11⟩ := X0.cs12; obtain ⟨q0, q1, q2, q3, q4, q5, q6, q7, q8, q9, q10, q11⟩ := Y0.cs12; clear X0 Y0
   go_wp2_with fail
   refine (R2 _).mono ?_
   rintro e w2 ⟨rfl, hB⟩
   replace T0 := T0.step hB
   clear hB p0 q0 p1 q1 p2 q2 p3 q3 p4 q4 p5 q5 p6 q6 p7 q7 p8 q8 p9 q9 p10 q10 p11 q11
   by_cases h2 : ptB u v t = true
   · rw [h2]
     have HO : Hid (ptCmp x y z u v t = ordI x y z u v t) := by show _ = _; unfold ptCmp; rw [h1, h2]; rfl
     obtain ⟨-, sx, sy, sz⟩ := ptB_small h1
     obtain ⟨-, su, sv, st⟩ := ptB_small h2
     have C := order_det x y z u v t sx sy sz su sv st
     clear h1 h2 R1 R2 sx sy sz su sv st
     generalize ordI x y z u v t = o at *
     have X0 : Blk _ w.heap.size _ := T0.b 0 rfl; have Y0 : Blk _ (w.heap.size + 1) _ := T0.b 1 rfl; obtain ⟨p0, p1, p2, p3, p4, p5, p6, p7, p8, p9, p10, p11⟩ := X0.cs12; obtain ⟨q0, q1, q2, q3, q4, q5, q6, q7, q8, q9, q10, q11⟩ := Y0.cs12; clear X0 Y0
     go_wp2_with fail
     refine (C _).mono ?_
     rintro e w3 ⟨rfl, hB⟩
     have HB := (T0.step hB).below
     clear hB T0 C p0 q0 p1 q1 p2 q2 p3 q3 p4 q4 p5 q5 p6 q6 p7 q7 p8 q8 p9 q9 p10 q10 p11 q11
     go_wp2
     go_ret
     exact ⟨by rw [HO.out]; rfl, HB⟩
   · replace h2 := Bool.eq_false_iff.2 h2
     rw [h2]
     have HO : Hid (ptCmp x y z u v t = 0) := by show _ = _; unfold ptCmp; rw [h2]; simp
     have HB := T0.below
     clear T0 h1 h2 R1 R2
     go_wp2
     go_ret
     exact ⟨by rw [HO.out]; rfl, HB⟩
 · replace h1 := Bool.eq_false_iff.2 h1
   rw [h1]
   have HO : Hid (ptCmp x y z u v t = 0) := by show _ = _; unfold ptCmp; rw [h1]; simp
   have HB := T0.below
   clear T0 h1 R1 R2
   go_wp2
   go_ret
   exact ⟨by rw [HO.out]; rfl, HB⟩
theorem IsNum.set2 {w : World} {s : Bool} {ao : Option Addr} {n cap : Nat} {ds : List Int} {z : Int} {k g : Nat} (h : IsNum w s ao n cap ds z k) {b0 : Bool} {o0 : Option Addr} {n0 c0 : Nat} (G : Blk w g [.bool b0, .slice o0 n0 c0]) (v0 v1 : Value) : IsNum ((w.setCell ⟨g, 0, none⟩ v0).setCell ⟨g, 1, none⟩ v1) s ao n cap ds z k := by
 have h1 := h.setp v0 (G.c 0 rfl) (by intro x e; cases e)
 exact h1.setp v1 ((G.setI 0 (by simp) v0).c 1 rfl) (by intro x e; cases e)
theorem ArgsB.set2g {w W : World} {vss : List (List Value)} (h : ArgsB w W vss) {g : Nat} (hg : w.heap.size + vss.length ≤ g) (v0 v1 : Value) : ArgsB w ((W.setCell ⟨g, 0, none⟩ v0).setCell ⟨g, 1, none⟩ v1) vss := (h.set (by exact hg) _).set (by exact hg) _
def CutN (w wx : World) (vss : List (List Value)) (z : Int) (k B : Nat) (p : Value) : Prop :=
 ∃ g s o n c d, p = .pointer (some ⟨g, 0, none⟩) ∧ B ≤ g ∧ Blk wx g [.bool s, .slice o n c] ∧ IsNum wx s o n c d z k ∧ ArgsB w wx vss
theorem cutN_new {w X : World} {vss : List (List Value)} {s : Bool} {o : Option Addr} {n c : Nat} {d : List Int} {z : Int} {k B : Nat} {T : TypeId} (h : ArgsB w X vss) (N : IsNum X s o n c d z k) (hl : B ≤ X.heap.size) : CutN w (X.alloc (.cells #[.bool s, .slice o n c] T)) vss z k B (.pointer (some ⟨X.heap.size, 0, none⟩)) :=
 ⟨_, s, o, n, c, d, rfl, hl, Blk.new X [.bool s, .slice o n c] T rfl, N.alloc _, h.alloc _⟩
theorem cutN_set {w X : World} {vss : List (List Value)} {s : Bool} {o : Option Addr} {n c : Nat} {d : List Int} {z : Int} {k B g : Nat} (h : ArgsB w X vss) (N : IsNum X s o n c d z k) (G : Blk X g [.bool false, .slice none 0 0]) (hl : B ≤ g) (hg : w.heap.size + vss.length ≤ g) : CutN w ((X.setCell ⟨g, 0, none⟩ (.bool s)).setCell ⟨g, 1, none⟩ (.slice o n c)) vss z k B (.pointer (some ⟨g, 0, none⟩)) :=
 ⟨g, s, o, n, c, d, rfl, hl, (G.setI 0 (by simp) (.bool s)).setI 1 (by simp) (.slice o n c), N.set2 G _ _, h.set2g hg _ _⟩
def turnI (x y z u v t a b c : Int) : Int := cmpI (x * (v * c - t * b) - y * (u * c - t * a) + z * (u * b - v * a)) 0
end Go.Proofs.YtpnnpkchogooaaaGreat
