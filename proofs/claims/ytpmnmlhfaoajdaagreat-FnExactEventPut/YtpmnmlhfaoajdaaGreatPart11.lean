/- Part 11 of the walks that the proof leans on. -/
import Derived.Test.YtpmnmlhfaoajdaaGreatPart10
import Derived.Test.YtpmnmlhfaoajdaaGreatPart7
set_option maxRecDepth 100000
set_option maxHeartbeats 16000000
namespace Go.Proofs.YtpmnmlhfaoajdaaGreat
open Go.RowKit
theorem toEvent_any (ao : Option Addr) (m cap : Nat) (e : Nat → Int) (x y z : Int) (hm : m ≤ 1048576) (w : World) (hS : NoIn w ao m e) : Calls Tryz.prog 38 #[.agg #[.int .u64 (ww3 x), .int .u64 (ww2 x), .int .u64 (ww1 x), .int .u64 (ww0 x), .int .u64 (ww3 y), .int .u64 (ww2 y), .int .u64 (ww1 y), .int .u64 (ww0 y), .int .u64 (ww3 z), .int .u64 (ww2 z), .int .u64 (ww1 z), .int .u64 (ww0 z), .slice ao m cap]] w (fun r w' => ∃ g, r = .returned (.agg #[.int .u64 (ww3 x), .int .u64 (ww2 x), .int .u64 (ww1 x), .int .u64 (ww0 x), .int .u64 (ww3 y), .int .u64 (ww2 y), .int .u64 (ww1 y), .int .u64 (ww0 y), .int .u64 (ww3 z), .int .u64 (ww2 z), .int .u64 (ww1 z), .int .u64 (ww0 z), .slice (some ⟨g, 0, none⟩) m m]) ∧ w.heap.size ≤ g ∧ w'.rowIs g 2 m (fun i => .int .i64 (e i)) ∧ Below w.heap.size w w') := by
 have HB : Below w.heap.size w (((w.alloc (.cells #[.int .u64 (ww3 x), .int .u64 (ww2 x), .int .u64 (ww1 x), .int .u64 (ww0 x), .int .u64 (ww3 y), .int .u64 (ww2 y), .int .u64 (ww1 y), .int .u64 (ww0 y), .int .u64 (ww3 z), .int .u64 (ww2 z), .int .u64 (ww1 z), .int .u64 (ww0 z), .slice ao m cap] 75)).alloc (.cells #[.int .u64 0, .int .u64 0, .int .u64 0, .int .u64 0, .int .u64 0, .int .u64 0, .int .u64 0, .int .u64 0, .int .u64 0, .int .u64 0, .int .u64 0, .int .u64 0, .slice none 0 0] 81)).alloc (.cells #[.int .u64 0, .int .u64 0, .int .u64 0, .int .u64 0, .int .u64 0, .int .u64 0, .int .u64 0, .int .u64 0, .int .u64 0, .int .u64 0, .int .u64 0, .int .u64 0, .slice none 0 0] 81)) := (((Below.refl _ w).alloc (Nat.le_refl _) _).alloc (by simp) _).alloc (by simp; omega) _
 have B0 := ((Blk.new w [.int .u64 (ww3 x), .int .u64 (ww2 x), .int .u64 (ww1 x), .int .u64 (ww0 x), .int .u64 (ww3 y), .int .u64 (ww2 y), .int .u64 (ww1 y), .int .u64 (ww0 y), .int .u64 (ww3 z), .int .u64 (ww2 z), .int .u64 (ww1 z), .int .u64 (ww0 z), .slice ao m cap] 75 rfl).alloc (.cells #[.int .u64 0, .int .u64 0, .int .u64 0, .int .u64 0, .int .u64 0, .int .u64 0, .int .u64 0, .int .u64 0, .int .u64 0, .int .u64 0, .int .u64 0, .int .u64 0, .slice none 0 0] 81)).alloc (.cells #[.int .u64 0, .int .u64 0, .int .u64 0, .int .u64 0, .int .u64 0, .int .u64 0, .int .u64 0, .int .u64 0, .int .u64 0, .int .u64 0, .int .u64 0, .int .u64 0, .slice none 0 0] 81)
 have B1 := (Blk.new (w.alloc (.cells #[.int .u64 (ww3 x), .int .u64 (ww2 x), .int .u64 (ww1 x), .int .u64 (ww0 x), .int .u64 (ww3 y), .int .u64 (ww2 y), .int .u64 (ww1 y), .int .u64 (ww0 y), .int .u64 (ww3 z), .int .u64 (ww2 z), .int .u64 (ww1 z), .int .u64 (ww0 z), .slice ao m cap] 75)) [.int .u64 0, .int .u64 0, .int .u64 0, .int .u64 0, .int .u64 0, .int .u64 0, .int .u64 0, .int .u64 0, .int .u64 0, .int .u64 0, .int .u64 0, .int .u64 0, .slice none 0 0] 81 (g := w.heap.size + 1) (by simp)).alloc (.cells #[.int .u64 0, .int .u64 0, .int .u64 0, .int .u64 0, .int .u64 0, .int .u64 0, .int .u64 0, .int .u64 0, .int .u64 0, .int .u64 0, .int .u64 0, .int .u64 0, .slice none 0 0] 81)
 have B2 := Blk.new ((w.alloc (.cells #[.int .u64 (ww3 x), .int .u64 (ww2 x), .int .u64 (ww1 x), .int .u64 (ww0 x), .int .u64 (ww3 y), .int .u64 (ww2 y), .int .u64 (ww1 y), .int .u64 (ww0 y), .int .u64 (ww3 z), .int .u64 (ww2 z), .int .u64 (ww1 z), .int .u64 (ww0 z), .slice ao m cap] 75)).alloc (.cells #[.int .u64 0, .int .u64 0, .int .u64 0, .int .u64 0, .int .u64 0, .int .u64 0, .int .u64 0, .int .u64 0, .int .u64 0, .int .u64 0, .int .u64 0, .int .u64 0, .slice none 0 0] 81)) [.int .u64 0, .int .u64 0, .int .u64 0, .int .u64 0, .int .u64 0, .int .u64 0, .int .u64 0, .int .u64 0, .int .u64 0, .int .u64 0, .int .u64 0, .int .u64 0, .slice none 0 0] 81 (g := w.heap.size + 1 + 1) (by simp)
 have hsz : (((w.alloc (.cells #[.int .u64 (ww3 x), .int .u64 (ww2 x), .int .u64 (ww1 x), .int .u64 (ww0 x), .int .u64 (ww3 y), .int .u64 (ww2 y), .int .u64 (ww1 y), .int .u64 (ww0 y), .int .u64 (ww3 z), .int .u64 (ww2 z), .int .u64 (ww1 z), .int .u64 (ww0 z), .slice ao m cap] 75)).alloc (.cells #[.int .u64 0, .int .u64 0, .int .u64 0, .int .u64 0, .int .u64 0, .int .u64 0, .int .u64 0, .int .u64 0, .int .u64 0, .int .u64 0, .int .u64 0, .int .u64 0, .slice none 0 0] 81)).alloc (.cells #[.int .u64 0, .int .u64 0, .int .u64 0, .int .u64 0, .int .u64 0, .int .u64 0, .int .u64 0, .int .u64 0, .int .u64 0, .int .u64 0, .int .u64 0, .int .u64 0, .slice none 0 0] 81)).heap.size = w.heap.size + 3 := by simp
 have HS : Hid (NoIn w ao m e) := hS
 have TP := toPoint_det x y z
 have TN := fun w h => toNoS_any ao m cap e hm w h
 clear hS
 go_enter Tryz.func38, Tryz.ntmps38
 have b0 := B0.c 0 rfl; have b1 := B0.c 1 rfl; have b2 := B0.c 2 rfl; have b3 := B0.c 3 rfl; have b4 := B0.c 4 rfl; have b5 := B0.c 5 rfl; have b6 := B0.c 6 rfl; have b7 := B0.c 7 rfl; have b8 := B0.c 8 rfl; have b9 := B0.c 9 rfl; have b10 := B0.c 10 rfl; have b11 := B0.c 11 rfl; have b12 := B0.c 12 rfl
 go_wp2_with fail
 clear b0 b1 b2 b3 b4 b5 b6 b7 b8 b9 b10 b11 b12
 generalize (((w.alloc (.cells #[.int .u64 (ww3 x), .int .u64 (ww2 x), .int .u64 (ww1 x), .int .u64 (ww0 x), .int .u64 (ww3 y), .int .u64 (ww2 y), .int .u64 (ww1 y), .int .u64 (ww0 y), .int .u64 (ww3 z), .int .u64 (ww2 z), .int .u64 (ww1 z), .int .u64 (ww0 z), .slice ao m cap] 75)).alloc (.cells #[.int .u64 0, .int .u64 0, .int .u64 0, .int .u64 0, .int .u64 0, .int .u64 0, .int .u64 0, .int .u64 0, .int .u64 0, .int .u64 0, .int .u64 0, .int .u64 0, .slice none 0 0] 81)).alloc (.cells #[.int .u64 0, .int .u64 0, .int .u64 0, .int .u64 0, .int .u64 0, .int .u64 0, .int .u64 0, .int .u64 0, .int .u64 0, .int .u64 0, .int .u64 0, .int .u64 0, .slice none 0 0] 81)) = W3 at *
 refine (TP _).mono ?_
 rintro e1 w1 ⟨rfl, hB⟩
 replace B0 := B0.step hB; replace B1 := B1.step hB; replace B2 := B2.step hB
 have hs1 : w.heap.size + 3 ≤ w1.heap.size := by rw [← hsz]; exact hB.size
 replace HB := HB.trans (hB.mono HB.size)
 clear hB TP hsz
 have c0 := B2.c 0 rfl; have c1 := B2.c 1 rfl; have c2 := B2.c 2 rfl; have c3 := B2.c 3 rfl; have c4 := B2.c 4 rfl; have c5 := B2.c 5 rfl; have c6 := B2.c 6 rfl; have c7 := B2.c 7 rfl; have c8 := B2.c 8 rfl; have c9 := B2.c 9 rfl; have c10 := B2.c 10 rfl; have c11 := B2.c 11 rfl; have f0 := B2.f 0 rfl; have f1 := B2.f 1 rfl; have f2 := B2.f 2 rfl; have f3 := B2.f 3 rfl; have f4 := B2.f 4 rfl; have f5 := B2.f 5 rfl; have f6 := B2.f 6 rfl; have f7 := B2.f 7 rfl; have f8 := B2.f 8 rfl; have f9 := B2.f 9 rfl; have f10 := B2.f 10 rfl; have f11 := B2.f 11 rfl; have l2 := B2.lt
 have HB1 : Below w.heap.size w ((((((((((((w1.setCell ⟨w.heap.size + 1 + 1, 0, none⟩ (.int .u64 (ww3 x))).setCell ⟨w.heap.size + 1 + 1, 1, none⟩ (.int .u64 (ww2 x))).setCell ⟨w.heap.size + 1 + 1, 2, none⟩ (.int .u64 (ww1 x))).setCell ⟨w.heap.size + 1 + 1, 3, none⟩ (.int .u64 (ww0 x))).setCell ⟨w.heap.size + 1 + 1, 4, none⟩ (.int .u64 (ww3 y))).setCell ⟨w.heap.size + 1 + 1, 5, none⟩ (.int .u64 (ww2 y))).setCell ⟨w.heap.size + 1 + 1, 6, none⟩ (.int .u64 (ww1 y))).setCell ⟨w.heap.size + 1 + 1, 7, none⟩ (.int .u64 (ww0 y))).setCell ⟨w.heap.size + 1 + 1, 8, none⟩ (.int .u64 (ww3 z))).setCell ⟨w.heap.size + 1 + 1, 9, none⟩ (.int .u64 (ww2 z))).setCell ⟨w.heap.size + 1 + 1, 10, none⟩ (.int .u64 (ww1 z))).setCell ⟨w.heap.size + 1 + 1, 11, none⟩ (.int .u64 (ww0 z))) := (Below.setCell (Below.setCell (Below.setCell (Below.setCell (Below.setCell (Below.setCell (Below.setCell (Below.setCell (Below.setCell (Below.setCell (Below.setCell (Below.setCell HB (by show w.heap.size ≤ w.heap.size + 1 + 1; omega) (.int .u64 (ww3 x))) (by show w.heap.size ≤ w.heap.size + 1 + 1; omega) (.int .u64 (ww2 x))) (by show w.heap.size ≤ w.heap.size + 1 + 1; omega) (.int .u64 (ww1 x))) (by show w.heap.size ≤ w.heap.size + 1 + 1; omega) (.int .u64 (ww0 x))) (by show w.heap.size ≤ w.heap.size + 1 + 1; omega) (.int .u64 (ww3 y))) (by show w.heap.size ≤ w.heap.size + 1 + 1; omega) (.int .u64 (ww2 y))) (by show w.heap.size ≤ w.heap.size + 1 + 1; omega) (.int .u64 (ww1 y))) (by show w.heap.size ≤ w.heap.size + 1 + 1; omega) (.int .u64 (ww0 y))) (by show w.heap.size ≤ w.heap.size + 1 + 1; omega) (.int .u64 (ww3 z))) (by show w.heap.size ≤ w.heap.size + 1 + 1; omega) (.int .u64 (ww2 z))) (by show w.heap.size ≤ w.heap.size + 1 + 1; omega) (.int .u64 (ww1 z))) (by show w.heap.size ≤ w.heap.size + 1 + 1; omega) (.int .u64 (ww0 z)))
 have N2 : Blk ((((((((((((w1.setCell ⟨w.heap.size + 1 + 1, 0, none⟩ (.int .u64 (ww3 x))).setCell ⟨w.heap.size + 1 + 1, 1, none⟩ (.int .u64 (ww2 x))).setCell ⟨w.heap.size + 1 + 1, 2, none⟩ (.int .u64 (ww1 x))).setCell ⟨w.heap.size + 1 + 1, 3, none⟩ (.int .u64 (ww0 x))).setCell ⟨w.heap.size + 1 + 1, 4, none⟩ (.int .u64 (ww3 y))).setCell ⟨w.heap.size + 1 + 1, 5, none⟩ (.int .u64 (ww2 y))).setCell ⟨w.heap.size + 1 + 1, 6, none⟩ (.int .u64 (ww1 y))).setCell ⟨w.heap.size + 1 + 1, 7, none⟩ (.int .u64 (ww0 y))).setCell ⟨w.heap.size + 1 + 1, 8, none⟩ (.int .u64 (ww3 z))).setCell ⟨w.heap.size + 1 + 1, 9, none⟩ (.int .u64 (ww2 z))).setCell ⟨w.heap.size + 1 + 1, 10, none⟩ (.int .u64 (ww1 z))).setCell ⟨w.heap.size + 1 + 1, 11, none⟩ (.int .u64 (ww0 z))) (w.heap.size + 1 + 1) [.int .u64 (ww3 x), .int .u64 (ww2 x), .int .u64 (ww1 x), .int .u64 (ww0 x), .int .u64 (ww3 y), .int .u64 (ww2 y), .int .u64 (ww1 y), .int .u64 (ww0 y), .int .u64 (ww3 z), .int .u64 (ww2 z), .int .u64 (ww1 z), .int .u64 (ww0 z), .slice none 0 0] := ((((((((((((B2.setI 0 (by simp) (.int .u64 (ww3 x))).setI 1 (by simp) (.int .u64 (ww2 x))).setI 2 (by simp) (.int .u64 (ww1 x))).setI 3 (by simp) (.int .u64 (ww0 x))).setI 4 (by simp) (.int .u64 (ww3 y))).setI 5 (by simp) (.int .u64 (ww2 y))).setI 6 (by simp) (.int .u64 (ww1 y))).setI 7 (by simp) (.int .u64 (ww0 y))).setI 8 (by simp) (.int .u64 (ww3 z))).setI 9 (by simp) (.int .u64 (ww2 z))).setI 10 (by simp) (.int .u64 (ww1 z))).setI 11 (by simp) (.int .u64 (ww0 z)))
 have N1 : Blk ((((((((((((w1.setCell ⟨w.heap.size + 1 + 1, 0, none⟩ (.int .u64 (ww3 x))).setCell ⟨w.heap.size + 1 + 1, 1, none⟩ (.int .u64 (ww2 x))).setCell ⟨w.heap.size + 1 + 1, 2, none⟩ (.int .u64 (ww1 x))).setCell ⟨w.heap.size + 1 + 1, 3, none⟩ (.int .u64 (ww0 x))).setCell ⟨w.heap.size + 1 + 1, 4, none⟩ (.int .u64 (ww3 y))).setCell ⟨w.heap.size + 1 + 1, 5, none⟩ (.int .u64 (ww2 y))).setCell ⟨w.heap.size + 1 + 1, 6, none⟩ (.int .u64 (ww1 y))).setCell ⟨w.heap.size + 1 + 1, 7, none⟩ (.int .u64 (ww0 y))).setCell ⟨w.heap.size + 1 + 1, 8, none⟩ (.int .u64 (ww3 z))).setCell ⟨w.heap.size + 1 + 1, 9, none⟩ (.int .u64 (ww2 z))).setCell ⟨w.heap.size + 1 + 1, 10, none⟩ (.int .u64 (ww1 z))).setCell ⟨w.heap.size + 1 + 1, 11, none⟩ (.int .u64 (ww0 z))) (w.heap.size + 1) [.int .u64 0, .int .u64 0, .int .u64 0, .int .u64 0, .int .u64 0, .int .u64 0, .int .u64 0, .int .u64 0, .int .u64 0, .int .u64 0, .int .u64 0, .int .u64 0, .slice none 0 0] := ((((((((((((B1.setO (by show w.heap.size + 1 ≠ w.heap.size + 1 + 1; omega) (.int .u64 (ww3 x))).setO (by show w.heap.size + 1 ≠ w.heap.size + 1 + 1; omega) (.int .u64 (ww2 x))).setO (by show w.heap.size + 1 ≠ w.heap.size + 1 + 1; omega) (.int .u64 (ww1 x))).setO (by show w.heap.size + 1 ≠ w.heap.size + 1 + 1; omega) (.int .u64 (ww0 x))).setO (by show w.heap.size + 1 ≠ w.heap.size + 1 + 1; omega) (.int .u64 (ww3 y))).setO (by show w.heap.size + 1 ≠ w.heap.size + 1 + 1; omega) (.int .u64 (ww2 y))).setO (by show w.heap.size + 1 ≠ w.heap.size + 1 + 1; omega) (.int .u64 (ww1 y))).setO (by show w.heap.size + 1 ≠ w.heap.size + 1 + 1; omega) (.int .u64 (ww0 y))).setO (by show w.heap.size + 1 ≠ w.heap.size + 1 + 1; omega) (.int .u64 (ww3 z))).setO (by show w.heap.size + 1 ≠ w.heap.size + 1 + 1; omega) (.int .u64 (ww2 z))).setO (by show w.heap.size + 1 ≠ w.heap.size + 1 + 1; omega) (.int .u64 (ww1 z))).setO (by show w.heap.size + 1 ≠ w.heap.size + 1 + 1; omega) (.int .u64 (ww0 z)))
 have N0 : Blk ((((((((((((w1.setCell ⟨w.heap.size + 1 + 1, 0, none⟩ (.int .u64 (ww3 x))).setCell ⟨w.heap.size + 1 + 1, 1, none⟩ (.int .u64 (ww2 x))).setCell ⟨w.heap.size + 1 + 1, 2, none⟩ (.int .u64 (ww1 x))).setCell ⟨w.heap.size + 1 + 1, 3, none⟩ (.int .u64 (ww0 x))).setCell ⟨w.heap.size + 1 + 1, 4, none⟩ (.int .u64 (ww3 y))).setCell ⟨w.heap.size + 1 + 1, 5, none⟩ (.int .u64 (ww2 y))).setCell ⟨w.heap.size + 1 + 1, 6, none⟩ (.int .u64 (ww1 y))).setCell ⟨w.heap.size + 1 + 1, 7, none⟩ (.int .u64 (ww0 y))).setCell ⟨w.heap.size + 1 + 1, 8, none⟩ (.int .u64 (ww3 z))).setCell ⟨w.heap.size + 1 + 1, 9, none⟩ (.int .u64 (ww2 z))).setCell ⟨w.heap.size + 1 + 1, 10, none⟩ (.int .u64 (ww1 z))).setCell ⟨w.heap.size + 1 + 1, 11, none⟩ (.int .u64 (ww0 z))) w.heap.size [.int .u64 (ww3 x), .int .u64 (ww2 x), .int .u64 (ww1 x), .int .u64 (ww0 x), .int .u64 (ww3 y), .int .u64 (ww2 y), .int .u64 (ww1 y), .int .u64 (ww0 y), .int .u64 (ww3 z), .int .u64 (ww2 z), .int .u64 (ww1 z), .int .u64 (ww0 z), .slice ao m cap] := ((((((((((((B0.setO (by show w.heap.size ≠ w.heap.size + 1 + 1; omega) (.int .u64 (ww3 x))).setO (by show w.heap.size ≠ w.heap.size + 1 + 1; omega) (.int .u64 (ww2 x))).setO (by show w.heap.size ≠ w.heap.size + 1 + 1; omega) (.int .u64 (ww1 x))).setO (by show w.heap.size ≠ w.heap.size + 1 + 1; omega) (.int .u64 (ww0 x))).setO (by show w.heap.size ≠ w.heap.size + 1 + 1; omega) (.int .u64 (ww3 y))).setO (by show w.heap.size ≠ w.heap.size + 1 + 1; omega) (.int .u64 (ww2 y))).setO (by show w.heap.size ≠ w.heap.size + 1 + 1; omega) (.int .u64 (ww1 y))).setO (by show w.heap.size ≠ w.heap.size + 1 + 1; omega) (.int .u64 (ww0 y))).setO (by show w.heap.size ≠ w.heap.size + 1 + 1; omega) (.int .u64 (ww3 z))).setO (by show w.heap.size ≠ w.heap.size + 1 + 1; omega) (.int .u64 (ww2 z))).setO (by show w.heap.size ≠ w.heap.size + 1 + 1; omega) (.int .u64 (ww1 z))).setO (by show w.heap.size ≠ w.heap.size + 1 + 1; omega) (.int .u64 (ww0 z)))
 have hs2 : w.heap.size + 3 ≤ ((((((((((((w1.setCell ⟨w.heap.size + 1 + 1, 0, none⟩ (.int .u64 (ww3 x))).setCell ⟨w.heap.size + 1 + 1, 1, none⟩ (.int .u64 (ww2 x))).setCell ⟨w.heap.size + 1 + 1, 2, none⟩ (.int .u64 (ww1 x))).setCell ⟨w.heap.size + 1 + 1, 3, none⟩ (.int .u64 (ww0 x))).setCell ⟨w.heap.size + 1 + 1, 4, none⟩ (.int .u64 (ww3 y))).setCell ⟨w.heap.size + 1 + 1, 5, none⟩ (.int .u64 (ww2 y))).setCell ⟨w.heap.size + 1 + 1, 6, none⟩ (.int .u64 (ww1 y))).setCell ⟨w.heap.size + 1 + 1, 7, none⟩ (.int .u64 (ww0 y))).setCell ⟨w.heap.size + 1 + 1, 8, none⟩ (.int .u64 (ww3 z))).setCell ⟨w.heap.size + 1 + 1, 9, none⟩ (.int .u64 (ww2 z))).setCell ⟨w.heap.size + 1 + 1, 10, none⟩ (.int .u64 (ww1 z))).setCell ⟨w.heap.size + 1 + 1, 11, none⟩ (.int .u64 (ww0 z))).heap.size := by simp; exact hs1
 have d12 := N0.c 12 rfl
 clear HB B0 B1 B2
 go_wp2_with fail
 clear c0 c1 c2 c3 c4 c5 c6 c7 c8 c9 c10 c11 f0 f1 f2 f3 f4 f5 f6 f7 f8 f9 f10 f11 l2 d12 N0
 generalize ((((((((((((w1.setCell ⟨w.heap.size + 1 + 1, 0, none⟩ (.int .u64 (ww3 x))).setCell ⟨w.heap.size + 1 + 1, 1, none⟩ (.int .u64 (ww2 x))).setCell ⟨w.heap.size + 1 + 1, 2, none⟩ (.int .u64 (ww1 x))).setCell ⟨w.heap.size + 1 + 1, 3, none⟩ (.int .u64 (ww0 x))).setCell ⟨w.heap.size + 1 + 1, 4, none⟩ (.int .u64 (ww3 y))).setCell ⟨w.heap.size + 1 + 1, 5, none⟩ (.int .u64 (ww2 y))).setCell ⟨w.heap.size + 1 + 1, 6, none⟩ (.int .u64 (ww1 y))).setCell ⟨w.heap.size + 1 + 1, 7, none⟩ (.int .u64 (ww0 y))).setCell ⟨w.heap.size + 1 + 1, 8, none⟩ (.int .u64 (ww3 z))).setCell ⟨w.heap.size + 1 + 1, 9, none⟩ (.int .u64 (ww2 z))).setCell ⟨w.heap.size + 1 + 1, 10, none⟩ (.int .u64 (ww1 z))).setCell ⟨w.heap.size + 1 + 1, 11, none⟩ (.int .u64 (ww0 z))) = W4 at *
 refine (TN _ (HS.out.step HB1)).mono ?_
 rintro e2 w2 ⟨g, rfl, hg, R, hB⟩
 replace N1 := N1.step hB; replace N2 := N2.step hB
 replace HB1 := HB1.trans (hB.mono HB1.size)
 have hg3 : w.heap.size + 3 ≤ g := Nat.le_trans hs2 hg
 clear hB TN hs2 hg HS hs1
 have c12 := N2.c 12 rfl; have f12 := N2.f 12 rfl; have l2 := N2.lt; have l1 := N1.lt
 have M2 : Blk (w2.setCell ⟨w.heap.size + 1 + 1, 12, none⟩ (.slice (some ⟨g, 0, none⟩) m m)) (w.heap.size + 1 + 1) [.int .u64 (ww3 x), .int .u64 (ww2 x), .int .u64 (ww1 x), .int .u64 (ww0 x), .int .u64 (ww3 y), .int .u64 (ww2 y), .int .u64 (ww1 y), .int .u64 (ww0 y), .int .u64 (ww3 z), .int .u64 (ww2 z), .int .u64 (ww1 z), .int .u64 (ww0 z), .slice (some ⟨g, 0, none⟩) m m] := N2.setI 12 (by simp) (.slice (some ⟨g, 0, none⟩) m m)
 have M1 : Blk (w2.setCell ⟨w.heap.size + 1 + 1, 12, none⟩ (.slice (some ⟨g, 0, none⟩) m m)) (w.heap.size + 1) [.int .u64 0, .int .u64 0, .int .u64 0, .int .u64 0, .int .u64 0, .int .u64 0, .int .u64 0, .int .u64 0, .int .u64 0, .int .u64 0, .int .u64 0, .int .u64 0, .slice none 0 0] := N1.setO (by show w.heap.size + 1 ≠ w.heap.size + 1 + 1; omega) (.slice (some ⟨g, 0, none⟩) m m)
 have HB2 : Below w.heap.size w (w2.setCell ⟨w.heap.size + 1 + 1, 12, none⟩ (.slice (some ⟨g, 0, none⟩) m m)) := Below.setCell HB1 (by show w.heap.size ≤ w.heap.size + 1 + 1; omega) (.slice (some ⟨g, 0, none⟩) m m)
 have R2 : (w2.setCell ⟨w.heap.size + 1 + 1, 12, none⟩ (.slice (some ⟨g, 0, none⟩) m m)).rowIs g 2 m (fun i => .int .i64 (e i)) := R.setOther (by show g ≠ w.heap.size + 1 + 1; omega) (.slice (some ⟨g, 0, none⟩) m m)
 clear N1 N2 HB1 R
 go_upto_region 4 with fail
 clear c12 f12 l2 l1
 generalize (w2.setCell ⟨w.heap.size + 1 + 1, 12, none⟩ (.slice (some ⟨g, 0, none⟩) m m)) = W5 at *
 have c0 := M2.c 0 rfl; have c1 := M2.c 1 rfl; have c2 := M2.c 2 rfl; have c3 := M2.c 3 rfl; have c4 := M2.c 4 rfl; have c5 := M2.c 5 rfl; have c6 := M2.c 6 rfl; have c7 := M2.c 7 rfl; have c8 := M2.c 8 rfl; have c9 := M2.c 9 rfl; have c10 := M2.c 10 rfl; have c11 := M2.c 11 rfl; have c12 := M2.c 12 rfl; have h0 := M1.c 0 rfl; have h1 := M1.c 1 rfl; have h2 := M1.c 2 rfl; have h3 := M1.c 3 rfl; have h4 := M1.c 4 rfl; have h5 := M1.c 5 rfl; have h6 := M1.c 6 rfl; have h7 := M1.c 7 rfl; have h8 := M1.c 8 rfl; have h9 := M1.c 9 rfl; have h10 := M1.c 10 rfl; have h11 := M1.c 11 rfl; have h12 := M1.c 12 rfl; have f0 := M1.f 0 rfl; have f1 := M1.f 1 rfl; have f2 := M1.f 2 rfl; have f3 := M1.f 3 rfl; have f4 := M1.f 4 rfl; have f5 := M1.f 5 rfl; have f6 := M1.f 6 rfl; have f7 := M1.f 7 rfl; have f8 := M1.f 8 rfl; have f9 := M1.f 9 rfl; have f10 := M1.f 10 rfl; have f11 := M1.f 11 rfl; have f12 := M1.f 12 rfl; have l1 := M1.lt; have l2 := M2.lt
 have K1 : Blk (((((((((((((W5.setCell ⟨w.heap.size + 1, 0, none⟩ (.int .u64 (ww3 x))).setCell ⟨w.heap.size + 1, 1, none⟩ (.int .u64 (ww2 x))).setCell ⟨w.heap.size + 1, 2, none⟩ (.int .u64 (ww1 x))).setCell ⟨w.heap.size + 1, 3, none⟩ (.int .u64 (ww0 x))).setCell ⟨w.heap.size + 1, 4, none⟩ (.int .u64 (ww3 y))).setCell ⟨w.heap.size + 1, 5, none⟩ (.int .u64 (ww2 y))).setCell ⟨w.heap.size + 1, 6, none⟩ (.int .u64 (ww1 y))).setCell ⟨w.heap.size + 1, 7, none⟩ (.int .u64 (ww0 y))).setCell ⟨w.heap.size + 1, 8, none⟩ (.int .u64 (ww3 z))).setCell ⟨w.heap.size + 1, 9, none⟩ (.int .u64 (ww2 z))).setCell ⟨w.heap.size + 1, 10, none⟩ (.int .u64 (ww1 z))).setCell ⟨w.heap.size + 1, 11, none⟩ (.int .u64 (ww0 z))).setCell ⟨w.heap.size + 1, 12, none⟩ (.slice (some ⟨g, 0, none⟩) m m)) (w.heap.size + 1) [.int .u64 (ww3 x), .int .u64 (ww2 x), .int .u64 (ww1 x), .int .u64 (ww0 x), .int .u64 (ww3 y), .int .u64 (ww2 y), .int .u64 (ww1 y), .int .u64 (ww0 y), .int .u64 (ww3 z), .int .u64 (ww2 z), .int .u64 (ww1 z), .int .u64 (ww0 z), .slice (some ⟨g, 0, none⟩) m m] := (((((((((((((M1.setI 0 (by simp) (.int .u64 (ww3 x))).setI 1 (by simp) (.int .u64 (ww2 x))).setI 2 (by simp) (.int .u64 (ww1 x))).setI 3 (by simp) (.int .u64 (ww0 x))).setI 4 (by simp) (.int .u64 (ww3 y))).setI 5 (by simp) (.int .u64 (ww2 y))).setI 6 (by simp) (.int .u64 (ww1 y))).setI 7 (by simp) (.int .u64 (ww0 y))).setI 8 (by simp) (.int .u64 (ww3 z))).setI 9 (by simp) (.int .u64 (ww2 z))).setI 10 (by simp) (.int .u64 (ww1 z))).setI 11 (by simp) (.int .u64 (ww0 z))).setI 12 (by simp) (.slice (some ⟨g, 0, none⟩) m m))
 have HB3 : Below w.heap.size w (((((((((((((W5.setCell ⟨w.heap.size + 1, 0, none⟩ (.int .u64 (ww3 x))).setCell ⟨w.heap.size + 1, 1, none⟩ (.int .u64 (ww2 x))).setCell ⟨w.heap.size + 1, 2, none⟩ (.int .u64 (ww1 x))).setCell ⟨w.heap.size + 1, 3, none⟩ (.int .u64 (ww0 x))).setCell ⟨w.heap.size + 1, 4, none⟩ (.int .u64 (ww3 y))).setCell ⟨w.heap.size + 1, 5, none⟩ (.int .u64 (ww2 y))).setCell ⟨w.heap.size + 1, 6, none⟩ (.int .u64 (ww1 y))).setCell ⟨w.heap.size + 1, 7, none⟩ (.int .u64 (ww0 y))).setCell ⟨w.heap.size + 1, 8, none⟩ (.int .u64 (ww3 z))).setCell ⟨w.heap.size + 1, 9, none⟩ (.int .u64 (ww2 z))).setCell ⟨w.heap.size + 1, 10, none⟩ (.int .u64 (ww1 z))).setCell ⟨w.heap.size + 1, 11, none⟩ (.int .u64 (ww0 z))).setCell ⟨w.heap.size + 1, 12, none⟩ (.slice (some ⟨g, 0, none⟩) m m)) := (Below.setCell (Below.setCell (Below.setCell (Below.setCell (Below.setCell (Below.setCell (Below.setCell (Below.setCell (Below.setCell (Below.setCell (Below.setCell (Below.setCell (Below.setCell HB2 (by show w.heap.size ≤ w.heap.size + 1; omega) (.int .u64 (ww3 x))) (by show w.heap.size ≤ w.heap.size + 1; omega) (.int .u64 (ww2 x))) (by show w.heap.size ≤ w.heap.size + 1; omega) (.int .u64 (ww1 x))) (by show w.heap.size ≤ w.heap.size + 1; omega) (.int .u64 (ww0 x))) (by show w.heap.size ≤ w.heap.size + 1; omega) (.int .u64 (ww3 y))) (by show w.heap.size ≤ w.heap.size + 1; omega) (.int .u64 (ww2 y))) (by show w.heap.size ≤ w.heap.size + 1; omega) (.int .u64 (ww1 y))) (by show w.heap.size ≤ w.heap.size + 1; omega) (.int .u64 (ww0 y))) (by show w.heap.size ≤ w.heap.size + 1; omega) (.int .u64 (ww3 z))) (by show w.heap.size ≤ w.heap.size + 1; omega) (.int .u64 (ww2 z))) (by show w.heap.size ≤ w.heap.size + 1; omega) (.int .u64 (ww1 z))) (by show w.heap.size ≤ w.heap.size + 1; omega) (.int .u64 (ww0 z))) (by show w.heap.size ≤ w.heap.size + 1; omega) (.slice (some ⟨g, 0, none⟩) m m))
 have R3 : (((((((((((((W5.setCell ⟨w.heap.size + 1, 0, none⟩ (.int .u64 (ww3 x))).setCell ⟨w.heap.size + 1, 1, none⟩ (.int .u64 (ww2 x))).setCell ⟨w.heap.size + 1, 2, none⟩ (.int .u64 (ww1 x))).setCell ⟨w.heap.size + 1, 3, none⟩ (.int .u64 (ww0 x))).setCell ⟨w.heap.size + 1, 4, none⟩ (.int .u64 (ww3 y))).setCell ⟨w.heap.size + 1, 5, none⟩ (.int .u64 (ww2 y))).setCell ⟨w.heap.size + 1, 6, none⟩ (.int .u64 (ww1 y))).setCell ⟨w.heap.size + 1, 7, none⟩ (.int .u64 (ww0 y))).setCell ⟨w.heap.size + 1, 8, none⟩ (.int .u64 (ww3 z))).setCell ⟨w.heap.size + 1, 9, none⟩ (.int .u64 (ww2 z))).setCell ⟨w.heap.size + 1, 10, none⟩ (.int .u64 (ww1 z))).setCell ⟨w.heap.size + 1, 11, none⟩ (.int .u64 (ww0 z))).setCell ⟨w.heap.size + 1, 12, none⟩ (.slice (some ⟨g, 0, none⟩) m m)).rowIs g 2 m (fun i => .int .i64 (e i)) := by
   repeat' (refine World.rowIs.setOther ?_ (by show g ≠ w.heap.size + 1; omega) _)
   exact R2
 clear M1 M2 HB2 R2
 go_wp2
 clear c0 c1 c2 c3 c4 c5 c6 c7 c8 c9 c10 c11 c12 h0 h1 h2 h3 h4 h5 h6 h7 h8 h9 h10 h11 h12 f0 f1 f2 f3 f4 f5 f6 f7 f8 f9 f10 f11 f12 l1 l2
 generalize (((((((((((((W5.setCell ⟨w.heap.size + 1, 0, none⟩ (.int .u64 (ww3 x))).setCell ⟨w.heap.size + 1, 1, none⟩ (.int .u64 (ww2 x))).setCell ⟨w.heap.size + 1, 2, none⟩ (.int .u64 (ww1 x))).setCell ⟨w.heap.size + 1, 3, none⟩ (.int .u64 (ww0 x))).setCell ⟨w.heap.size + 1, 4, none⟩ (.int .u64 (ww3 y))).setCell ⟨w.heap.size + 1, 5, none⟩ (.int .u64 (ww2 y))).setCell ⟨w.heap.size + 1, 6, none⟩ (.int .u64 (ww1 y))).setCell ⟨w.heap.size + 1, 7, none⟩ (.int .u64 (ww0 y))).setCell ⟨w.heap.size + 1, 8, none⟩ (.int .u64 (ww3 z))).setCell ⟨w.heap.size + 1, 9, none⟩ (.int .u64 (ww2 z))).setCell ⟨w.heap.size + 1, 10, none⟩ (.int .u64 (ww1 z))).setCell ⟨w.heap.size + 1, 11, none⟩ (.int .u64 (ww0 z))).setCell ⟨w.heap.size + 1, 12, none⟩ (.slice (some ⟨g, 0, none⟩) m m)) = W6 at *
 have k0 := K1.c 0 rfl; have k1 := K1.c 1 rfl; have k2 := K1.c 2 rfl; have k3 := K1.c 3 rfl; have k4 := K1.c 4 rfl; have k5 := K1.c 5 rfl; have k6 := K1.c 6 rfl; have k7 := K1.c 7 rfl; have k8 := K1.c 8 rfl; have k9 := K1.c 9 rfl; have k10 := K1.c 10 rfl; have k11 := K1.c 11 rfl; have k12 := K1.c 12 rfl
 refine bodyPost_ret (v := .agg #[.int .u64 (ww3 x), .int .u64 (ww2 x), .int .u64 (ww1 x), .int .u64 (ww0 x), .int .u64 (ww3 y), .int .u64 (ww2 y), .int .u64 (ww1 y), .int .u64 (ww0 y), .int .u64 (ww3 z), .int .u64 (ww2 z), .int .u64 (ww1 z), .int .u64 (ww0 z), .slice (some ⟨g, 0, none⟩) m m]) (by simp [results, Tryz.results38, go_sem, k0, k1, k2, k3, k4, k5, k6, k7, k8, k9, k10, k11, k12]) rfl ?_
 exact ⟨g, rfl, by omega, R3, HB3⟩
def evV (q : Nat → Int × Int × Int) (S : Nat → Nat) (L : Nat → Nat) (k : Nat) : Value :=
 if k % 13 = 0 then .int .u64 (ww3 (q (k / 13)).1)
 else if k % 13 = 1 then .int .u64 (ww2 (q (k / 13)).1)
 else if k % 13 = 2 then .int .u64 (ww1 (q (k / 13)).1)
 else if k % 13 = 3 then .int .u64 (ww0 (q (k / 13)).1)
 else if k % 13 = 4 then .int .u64 (ww3 (q (k / 13)).2.1)
 else if k % 13 = 5 then .int .u64 (ww2 (q (k / 13)).2.1)
 else if k % 13 = 6 then .int .u64 (ww1 (q (k / 13)).2.1)
 else if k % 13 = 7 then .int .u64 (ww0 (q (k / 13)).2.1)
 else if k % 13 = 8 then .int .u64 (ww3 (q (k / 13)).2.2)
 else if k % 13 = 9 then .int .u64 (ww2 (q (k / 13)).2.2)
 else if k % 13 = 10 then .int .u64 (ww1 (q (k / 13)).2.2)
 else if k % 13 = 11 then .int .u64 (ww0 (q (k / 13)).2.2)
 else .slice (some ⟨S (k / 13), 0, none⟩) (L (k / 13)) (L (k / 13))
theorem evV0 (q : Nat → Int × Int × Int) (S : Nat → Nat) (L : Nat → Nat) (c : Nat) : evV q S L (c * 13) = .int .u64 (ww3 (q c).1) := by
 unfold evV
 rw [show (c * 13) / 13 = c by omega, show (c * 13) % 13 = 0 by omega]
 rfl
theorem evV1 (q : Nat → Int × Int × Int) (S : Nat → Nat) (L : Nat → Nat) (c : Nat) : evV q S L (c * 13 + 1) = .int .u64 (ww2 (q c).1) := by
 unfold evV
 rw [show (c * 13 + 1) / 13 = c by omega, show (c * 13 + 1) % 13 = 1 by omega]
 rfl
theorem evV2 (q : Nat → Int × Int × Int) (S : Nat → Nat) (L : Nat → Nat) (c : Nat) : evV q S L (c * 13 + 2) = .int .u64 (ww1 (q c).1) := by
 unfold evV
 rw [show (c * 13 + 2) / 13 = c by omega, show (c * 13 + 2) % 13 = 2 by omega]
 rfl
theorem evV3 (q : Nat → Int × Int × Int) (S : Nat → Nat) (L : Nat → Nat) (c : Nat) : evV q S L (c * 13 + 3) = .int .u64 (ww0 (q c).1) := by
 unfold evV
 rw [show (c * 13 + 3) / 13 = c by omega, show (c * 13 + 3) % 13 = 3 by omega]
 rfl
theorem evV4 (q : Nat → Int × Int × Int) (S : Nat → Nat) (L : Nat → Nat) (c : Nat) : evV q S L (c * 13 + 4) = .int .u64 (ww3 (q c).2.1) := by
 unfold evV
 rw [show (c * 13 + 4) / 13 = c by omega, show (c * 13 + 4) % 13 = 4 by omega]
 rfl
theorem evV5 (q : Nat → Int × Int × Int) (S : Nat → Nat) (L : Nat → Nat) (c : Nat) : evV q S L (c * 13 + 5) = .int .u64 (ww2 (q c).2.1) := by
 unfold evV
 rw [show (c * 13 + 5) / 13 = c by omega, show (c * 13 + 5) % 13 = 5 by omega]
 rfl
theorem evV6 (q : Nat → Int × Int × Int) (S : Nat → Nat) (L : Nat → Nat) (c : Nat) : evV q S L (c * 13 + 6) = .int .u64 (ww1 (q c).2.1) := by
 unfold evV
 rw [show (c * 13 + 6) / 13 = c by omega, show (c * 13 + 6) % 13 = 6 by omega]
 rfl
theorem evV7 (q : Nat → Int × Int × Int) (S : Nat → Nat) (L : Nat → Nat) (c : Nat) : evV q S L (c * 13 + 7) = .int .u64 (ww0 (q c).2.1) := by
 unfold evV
 rw [show (c * 13 + 7) / 13 = c by omega, show (c * 13 + 7) % 13 = 7 by omega]
 rfl
theorem evV8 (q : Nat → Int × Int × Int) (S : Nat → Nat) (L : Nat → Nat) (c : Nat) : evV q S L (c * 13 + 8) = .int .u64 (ww3 (q c).2.2) := by
 unfold evV
 rw [show (c * 13 + 8) / 13 = c by omega, show (c * 13 + 8) % 13 = 8 by omega]
 rfl
theorem evV9 (q : Nat → Int × Int × Int) (S : Nat → Nat) (L : Nat → Nat) (c : Nat) : evV q S L (c * 13 + 9) = .int .u64 (ww2 (q c).2.2) := by
 unfold evV
 rw [show (c * 13 + 9) / 13 = c by omega, show (c * 13 + 9) % 13 = 9 by omega]
 rfl
theorem evV10 (q : Nat → Int × Int × Int) (S : Nat → Nat) (L : Nat → Nat) (c : Nat) : evV q S L (c * 13 + 10) = .int .u64 (ww1 (q c).2.2) := by
 unfold evV
 rw [show (c * 13 + 10) / 13 = c by omega, show (c * 13 + 10) % 13 = 10 by omega]
 rfl
theorem evV11 (q : Nat → Int × Int × Int) (S : Nat → Nat) (L : Nat → Nat) (c : Nat) : evV q S L (c * 13 + 11) = .int .u64 (ww0 (q c).2.2) := by
 unfold evV
 rw [show (c * 13 + 11) / 13 = c by omega, show (c * 13 + 11) % 13 = 11 by omega]
 rfl
theorem evV12 (q : Nat → Int × Int × Int) (S : Nat → Nat) (L : Nat → Nat) (c : Nat) : evV q S L (c * 13 + 12) = .slice (some ⟨S c, 0, none⟩) (L c) (L c) := by
 unfold evV
 rw [show (c * 13 + 12) / 13 = c by omega, show (c * 13 + 12) % 13 = 12 by omega]
 rfl
def evZ (k : Nat) : Value := if k % 13 = 12 then .slice none 0 0 else .int .u64 0
def cpV (q : Nat → Int × Int × Int) (S : Nat → Nat) (L : Nat → Nat) (c : Nat) (i : Nat) : Value := if i < c * 13 then evV q S L i else evZ i
theorem Tryz.infoEvent : (Tryz.prog.info? 81).map (fun i => (i.zero, i.size, i.bytes)) = some (some (.agg #[.int .u64 0, .int .u64 0, .int .u64 0, .int .u64 0, .int .u64 0, .int .u64 0, .int .u64 0, .int .u64 0, .int .u64 0, .int .u64 0, .int .u64 0, .int .u64 0, .slice none 0 0]), 13, 120) := by kernel_rfl
theorem make_events (n : Nat) (hn : n ≤ 1048576) (w : World) : (Instr.makeSlice 44 (.int .i64 (n : Int)) (.int .i64 (n : Int))).run Tryz.prog w = .ok (.slice (some ⟨w.heap.size, 0, none⟩) n n) (w.alloc (.cells (madeCells #[.int .u64 0, .int .u64 0, .int .u64 0, .int .u64 0, .int .u64 0, .int .u64 0, .int .u64 0, .int .u64 0, .int .u64 0, .int .u64 0, .int .u64 0, .int .u64 0, .slice none 0 0] (n * 13)) 81)) := by
 obtain ⟨i, hi, hzz⟩ := Option.map_eq_some_iff.1 Tryz.infoEvent
 simp only [Prod.mk.injEq] at hzz
 obtain ⟨hz, hs, hb⟩ := hzz
 have hr := run_make (P := Tryz.prog) w 44 81 i (.agg #[.int .u64 0, .int .u64 0, .int .u64 0, .int .u64 0, .int .u64 0, .int .u64 0, .int .u64 0, .int .u64 0, .int .u64 0, .int .u64 0, .int .u64 0, .int .u64 0, .slice none 0 0]) Tryz.underlying44 hi hz .i64 .i64 n n (by omega) (Int.le_refl _) (by rw [hb]; omega) (by omega)
 simp only [Int.toNat_natCast, hs, Value.cells] at hr
 exact hr
theorem rowe_made (w : World) (n : Nat) (T : TypeId) : (w.alloc (.cells (madeCells #[.int .u64 0, .int .u64 0, .int .u64 0, .int .u64 0, .int .u64 0, .int .u64 0, .int .u64 0, .int .u64 0, .int .u64 0, .int .u64 0, .int .u64 0, .int .u64 0, .slice none 0 0] (n * 13)) T)).rowIs w.heap.size T (n * 13) evZ := by
 have h := World.rowIs_alloc w (madeCells #[.int .u64 0, .int .u64 0, .int .u64 0, .int .u64 0, .int .u64 0, .int .u64 0, .int .u64 0, .int .u64 0, .int .u64 0, .int .u64 0, .int .u64 0, .int .u64 0, .slice none 0 0] (n * 13)) T evZ (fun i hi => by
   rw [size_madeCells] at hi
   unfold evZ
   simp [madeCells, hi]
   rcases (show i % 13 = 0 ∨ i % 13 = 1 ∨ i % 13 = 2 ∨ i % 13 = 3 ∨ i % 13 = 4 ∨ i % 13 = 5 ∨ i % 13 = 6 ∨ i % 13 = 7 ∨ i % 13 = 8 ∨ i % 13 = 9 ∨ i % 13 = 10 ∨ i % 13 = 11 ∨ i % 13 = 12 by omega) with h | h | h | h | h | h | h | h | h | h | h | h | h <;> simp [h])
 rwa [size_madeCells] at h
theorem cpe_step {w : World} {a n c g : Nat} {T : TypeId} {q : Nat → Int × Int × Int} {S L : Nat → Nat} (h : w.rowIs a T (n * 13) (cpV q S L c)) : (((((((((((((w.setCell ⟨a, c * 13, none⟩ (.int .u64 (ww3 (q c).1))).setCell ⟨a, c * 13 + 1, none⟩ (.int .u64 (ww2 (q c).1))).setCell ⟨a, c * 13 + 2, none⟩ (.int .u64 (ww1 (q c).1))).setCell ⟨a, c * 13 + 3, none⟩ (.int .u64 (ww0 (q c).1))).setCell ⟨a, c * 13 + 4, none⟩ (.int .u64 (ww3 (q c).2.1))).setCell ⟨a, c * 13 + 5, none⟩ (.int .u64 (ww2 (q c).2.1))).setCell ⟨a, c * 13 + 6, none⟩ (.int .u64 (ww1 (q c).2.1))).setCell ⟨a, c * 13 + 7, none⟩ (.int .u64 (ww0 (q c).2.1))).setCell ⟨a, c * 13 + 8, none⟩ (.int .u64 (ww3 (q c).2.2))).setCell ⟨a, c * 13 + 9, none⟩ (.int .u64 (ww2 (q c).2.2))).setCell ⟨a, c * 13 + 10, none⟩ (.int .u64 (ww1 (q c).2.2))).setCell ⟨a, c * 13 + 11, none⟩ (.int .u64 (ww0 (q c).2.2))).setCell ⟨a, c * 13 + 12, none⟩ (.slice (some ⟨g, 0, none⟩) (L c) (L c))).rowIs a T (n * 13) (cpV q (fun j => if j = c then g else S j) L (c + 1)) := by
 refine World.rowIs.congr (((((((((((((h.set (c * 13) (.int .u64 (ww3 (q c).1))).set (c * 13 + 1) (.int .u64 (ww2 (q c).1))).set (c * 13 + 2) (.int .u64 (ww1 (q c).1))).set (c * 13 + 3) (.int .u64 (ww0 (q c).1))).set (c * 13 + 4) (.int .u64 (ww3 (q c).2.1))).set (c * 13 + 5) (.int .u64 (ww2 (q c).2.1))).set (c * 13 + 6) (.int .u64 (ww1 (q c).2.1))).set (c * 13 + 7) (.int .u64 (ww0 (q c).2.1))).set (c * 13 + 8) (.int .u64 (ww3 (q c).2.2))).set (c * 13 + 9) (.int .u64 (ww2 (q c).2.2))).set (c * 13 + 10) (.int .u64 (ww1 (q c).2.2))).set (c * 13 + 11) (.int .u64 (ww0 (q c).2.2))).set (c * 13 + 12) (.slice (some ⟨g, 0, none⟩) (L c) (L c))) (fun i hi => ?_)
 unfold cpV
 by_cases h12 : i = c * 13 + 12
 · subst h12
   rw [if_pos (show c * 13 + 12 < (c + 1) * 13 by omega)]
   simp [evV12]
 by_cases h11 : i = c * 13 + 11
 · subst h11
   rw [if_pos (show c * 13 + 11 < (c + 1) * 13 by omega)]
   simp [evV11]
 by_cases h10 : i = c * 13 + 10
 · subst h10
   rw [if_pos (show c * 13 + 10 < (c + 1) * 13 by omega)]
   simp [evV10]
 by_cases h9 : i = c * 13 + 9
 · subst h9
   rw [if_pos (show c * 13 + 9 < (c + 1) * 13 by omega)]
   simp [evV9]
 by_cases h8 : i = c * 13 + 8
 · subst h8
   rw [if_pos (show c * 13 + 8 < (c + 1) * 13 by omega)]
   simp [evV8]
 by_cases h7 : i = c * 13 + 7
 · subst h7
   rw [if_pos (show c * 13 + 7 < (c + 1) * 13 by omega)]
   simp [evV7]
 by_cases h6 : i = c * 13 + 6
 · subst h6
   rw [if_pos (show c * 13 + 6 < (c + 1) * 13 by omega)]
   simp [evV6]
 by_cases h5 : i = c * 13 + 5
 · subst h5
   rw [if_pos (show c * 13 + 5 < (c + 1) * 13 by omega)]
   simp [evV5]
 by_cases h4 : i = c * 13 + 4
 · subst h4
   rw [if_pos (show c * 13 + 4 < (c + 1) * 13 by omega)]
   simp [evV4]
 by_cases h3 : i = c * 13 + 3
 · subst h3
   rw [if_pos (show c * 13 + 3 < (c + 1) * 13 by omega)]
   simp [evV3]
 by_cases h2 : i = c * 13 + 2
 · subst h2
   rw [if_pos (show c * 13 + 2 < (c + 1) * 13 by omega)]
   simp [evV2]
 by_cases h1 : i = c * 13 + 1
 · subst h1
   rw [if_pos (show c * 13 + 1 < (c + 1) * 13 by omega)]
   simp [evV1]
 by_cases h0 : i = c * 13
 · subst h0
   rw [if_pos (show c * 13 < (c + 1) * 13 by omega)]
   simp [evV0]
 simp only [h0, h1, h2, h3, h4, h5, h6, h7, h8, h9, h10, h11, h12, if_false]
 by_cases hl : i < c * 13
 · rw [if_pos hl, if_pos (by omega)]
   unfold evV
   simp only [show (i / 13 = c) = False from eq_false (by omega), if_false]
 · rw [if_neg hl, if_neg (by omega)]
theorem belowe {w W : World} {a c g : Nat} {q : Nat → Int × Int × Int} {L : Nat → Nat} (hg : w.heap.size ≤ a) (h : Below w.heap.size w W) : Below w.heap.size w (((((((((((((W.setCell ⟨a, c * 13, none⟩ (.int .u64 (ww3 (q c).1))).setCell ⟨a, c * 13 + 1, none⟩ (.int .u64 (ww2 (q c).1))).setCell ⟨a, c * 13 + 2, none⟩ (.int .u64 (ww1 (q c).1))).setCell ⟨a, c * 13 + 3, none⟩ (.int .u64 (ww0 (q c).1))).setCell ⟨a, c * 13 + 4, none⟩ (.int .u64 (ww3 (q c).2.1))).setCell ⟨a, c * 13 + 5, none⟩ (.int .u64 (ww2 (q c).2.1))).setCell ⟨a, c * 13 + 6, none⟩ (.int .u64 (ww1 (q c).2.1))).setCell ⟨a, c * 13 + 7, none⟩ (.int .u64 (ww0 (q c).2.1))).setCell ⟨a, c * 13 + 8, none⟩ (.int .u64 (ww3 (q c).2.2))).setCell ⟨a, c * 13 + 9, none⟩ (.int .u64 (ww2 (q c).2.2))).setCell ⟨a, c * 13 + 10, none⟩ (.int .u64 (ww1 (q c).2.2))).setCell ⟨a, c * 13 + 11, none⟩ (.int .u64 (ww0 (q c).2.2))).setCell ⟨a, c * 13 + 12, none⟩ (.slice (some ⟨g, 0, none⟩) (L c) (L c))) := by
 repeat' (refine Below.setCell ?_ (by exact hg) _)
 exact h
theorem otherE {W : World} {a c g b n : Nat} {T : TypeId} {f : Nat → Value} {q : Nat → Int × Int × Int} {L : Nat → Nat} (hb : b ≠ a) (h : W.rowIs b T n f) : (((((((((((((W.setCell ⟨a, c * 13, none⟩ (.int .u64 (ww3 (q c).1))).setCell ⟨a, c * 13 + 1, none⟩ (.int .u64 (ww2 (q c).1))).setCell ⟨a, c * 13 + 2, none⟩ (.int .u64 (ww1 (q c).1))).setCell ⟨a, c * 13 + 3, none⟩ (.int .u64 (ww0 (q c).1))).setCell ⟨a, c * 13 + 4, none⟩ (.int .u64 (ww3 (q c).2.1))).setCell ⟨a, c * 13 + 5, none⟩ (.int .u64 (ww2 (q c).2.1))).setCell ⟨a, c * 13 + 6, none⟩ (.int .u64 (ww1 (q c).2.1))).setCell ⟨a, c * 13 + 7, none⟩ (.int .u64 (ww0 (q c).2.1))).setCell ⟨a, c * 13 + 8, none⟩ (.int .u64 (ww3 (q c).2.2))).setCell ⟨a, c * 13 + 9, none⟩ (.int .u64 (ww2 (q c).2.2))).setCell ⟨a, c * 13 + 10, none⟩ (.int .u64 (ww1 (q c).2.2))).setCell ⟨a, c * 13 + 11, none⟩ (.int .u64 (ww0 (q c).2.2))).setCell ⟨a, c * 13 + 12, none⟩ (.slice (some ⟨g, 0, none⟩) (L c) (L c))).rowIs b T n f := by
 repeat' (refine World.rowIs.setOther ?_ (by exact hb) _)
 exact h
theorem toEventS_any (ao : Option Addr) (n cap : Nat) (q : Nat → Int × Int × Int) (S : Nat → Option Addr × Nat) (L : Nat → Nat) (E : Nat → Nat → Int) (hn : n ≤ 1048576) (hL : ∀ i, i < n → L i ≤ 1048576) (w : World) (hS : EvIn w ao n q S L E) : Calls Tryz.prog 17 #[.slice ao n cap] w (fun e w' => ∃ g S', e = .returned (.slice (some ⟨g, 0, none⟩) n n) ∧ EvIn w' (some ⟨g, 0, none⟩) n q S' L E ∧ Below w.heap.size w w') := by
 have MK := make_events n hn
 have HS : Hid (EvIn w ao n q S L E) := hS
 have HL : Hid (∀ i, i < n → L i ≤ 1048576) := hL
 clear hS hL
 go_enter Tryz.func17, Tryz.ntmps17
 go_wp2_with fail
 have R0 := rowe_made w n 81
 have B0 : Below w.heap.size w (w.alloc (.cells (madeCells #[.int .u64 0, .int .u64 0, .int .u64 0, .int .u64 0, .int .u64 0, .int .u64 0, .int .u64 0, .int .u64 0, .int .u64 0, .int .u64 0, .int .u64 0, .int .u64 0, .slice none 0 0] (n * 13)) 81)) := (Below.refl _ _).alloc (Nat.le_refl _) _
 generalize (w.alloc (.cells (madeCells #[.int .u64 0, .int .u64 0, .int .u64 0, .int .u64 0, .int .u64 0, .int .u64 0, .int .u64 0, .int .u64 0, .int .u64 0, .int .u64 0, .int .u64 0, .int .u64 0, .slice none 0 0] (n * 13)) 81)) = W1 at *
 have hnI : (n : Int) ≤ 1048576 := by omega
 clear MK
 go_loopw [4] (fun i wr => ∃ (c : Nat) (S' : Nat → Nat), c ≤ n ∧ i = .int .i64 c ∧ wr.rowIs w.heap.size 81 (n * 13) (cpV q S' L c) ∧ (∀ j, j < c → S' j ≠ w.heap.size ∧ wr.rowIs (S' j) 2 (L j) (fun i => .int .i64 (E j i))) ∧ Below w.heap.size w wr) (fun i _ => n - (intOf i).toNat)
 case atStart => exact ⟨0, fun _ => 0, by omega, rfl, R0.congr (fun i _ => by unfold cpV; simp), fun j hj => by omega, B0⟩
 case round =>
   clear R0 B0
   obtain ⟨c, S', hc, rfl, R, hp, HB⟩ := hrel
   have HP : Hid (∀ j, j < c → S' j ≠ w.heap.size ∧ wr.rowIs (S' j) 2 (L j) (fun i => .int .i64 (E j i))) := hp
   clear hp
   by_cases hcn : c < n
   · obtain ⟨A, off, rfl, hA, q0, q1, q2, q3, q4, q5, q6, q7, q8, q9, q10, q11, q12, hrow⟩ := HS.out.step HB c hcn
     have hcI : (c : Int) < n := by omega
     have TL := fun w h => toEvent_any (S c).1 (L c) (S c).2 (E c) (q c).1 (q c).2.1 (q c).2.2 (HL.out c hcn) w h
     have hlr := R.lt
     go_wp2_with fail
     refine (TL _ hrow).mono ?_
     rintro e w1 ⟨g, rfl, hg, RG, hB⟩
     replace R := rowp_step R hB
     have HP2 : Hid (∀ j, j < c → S' j ≠ w.heap.size ∧ w1.rowIs (S' j) 2 (L j) (fun i => .int .i64 (E j i))) := fun j hj => ⟨(HP.out j hj).1, rowp_step (HP.out j hj).2 hB⟩
     replace HB := HB.trans (hB.mono HB.size)
     have o0 := R.cell (i := c * 13) (by omega); have f0 := R.frozen (c * 13); have o1 := R.cell (i := c * 13 + 1) (by omega); have f1 := R.frozen (c * 13 + 1); have o2 := R.cell (i := c * 13 + 2) (by omega); have f2 := R.frozen (c * 13 + 2); have o3 := R.cell (i := c * 13 + 3) (by omega); have f3 := R.frozen (c * 13 + 3); have o4 := R.cell (i := c * 13 + 4) (by omega); have f4 := R.frozen (c * 13 + 4); have o5 := R.cell (i := c * 13 + 5) (by omega); have f5 := R.frozen (c * 13 + 5); have o6 := R.cell (i := c * 13 + 6) (by omega); have f6 := R.frozen (c * 13 + 6); have o7 := R.cell (i := c * 13 + 7) (by omega); have f7 := R.frozen (c * 13 + 7); have o8 := R.cell (i := c * 13 + 8) (by omega); have f8 := R.frozen (c * 13 + 8); have o9 := R.cell (i := c * 13 + 9) (by omega); have f9 := R.frozen (c * 13 + 9); have o10 := R.cell (i := c * 13 + 10) (by omega); have f10 := R.frozen (c * 13 + 10); have o11 := R.cell (i := c * 13 + 11) (by omega); have f11 := R.frozen (c * 13 + 11); have o12 := R.cell (i := c * 13 + 12) (by omega); have f12 := R.frozen (c * 13 + 12)
     have RN := cpe_step (g := g) R
     have hgw : g ≠ w.heap.size := by omega
     have HPN : Hid (∀ j, j < c + 1 → (fun j => if j = c then g else S' j) j ≠ w.heap.size ∧ (((((((((((((w1.setCell ⟨w.heap.size, c * 13, none⟩ (.int .u64 (ww3 (q c).1))).setCell ⟨w.heap.size, c * 13 + 1, none⟩ (.int .u64 (ww2 (q c).1))).setCell ⟨w.heap.size, c * 13 + 2, none⟩ (.int .u64 (ww1 (q c).1))).setCell ⟨w.heap.size, c * 13 + 3, none⟩ (.int .u64 (ww0 (q c).1))).setCell ⟨w.heap.size, c * 13 + 4, none⟩ (.int .u64 (ww3 (q c).2.1))).setCell ⟨w.heap.size, c * 13 + 5, none⟩ (.int .u64 (ww2 (q c).2.1))).setCell ⟨w.heap.size, c * 13 + 6, none⟩ (.int .u64 (ww1 (q c).2.1))).setCell ⟨w.heap.size, c * 13 + 7, none⟩ (.int .u64 (ww0 (q c).2.1))).setCell ⟨w.heap.size, c * 13 + 8, none⟩ (.int .u64 (ww3 (q c).2.2))).setCell ⟨w.heap.size, c * 13 + 9, none⟩ (.int .u64 (ww2 (q c).2.2))).setCell ⟨w.heap.size, c * 13 + 10, none⟩ (.int .u64 (ww1 (q c).2.2))).setCell ⟨w.heap.size, c * 13 + 11, none⟩ (.int .u64 (ww0 (q c).2.2))).setCell ⟨w.heap.size, c * 13 + 12, none⟩ (.slice (some ⟨g, 0, none⟩) (L c) (L c))).rowIs ((fun j => if j = c then g else S' j) j) 2 (L j) (fun i => .int .i64 (E j i))) := fun j hj => by
       by_cases h : j = c
       · subst h
         dsimp only
         rw [if_pos rfl]
         exact ⟨hgw, otherE hgw RG⟩
       · dsimp only
         rw [if_neg h]
         have := HP2.out j (by omega)
         exact ⟨this.1, otherE this.1 this.2⟩
     have HN : Below w.heap.size w (((((((((((((w1.setCell ⟨w.heap.size, c * 13, none⟩ (.int .u64 (ww3 (q c).1))).setCell ⟨w.heap.size, c * 13 + 1, none⟩ (.int .u64 (ww2 (q c).1))).setCell ⟨w.heap.size, c * 13 + 2, none⟩ (.int .u64 (ww1 (q c).1))).setCell ⟨w.heap.size, c * 13 + 3, none⟩ (.int .u64 (ww0 (q c).1))).setCell ⟨w.heap.size, c * 13 + 4, none⟩ (.int .u64 (ww3 (q c).2.1))).setCell ⟨w.heap.size, c * 13 + 5, none⟩ (.int .u64 (ww2 (q c).2.1))).setCell ⟨w.heap.size, c * 13 + 6, none⟩ (.int .u64 (ww1 (q c).2.1))).setCell ⟨w.heap.size, c * 13 + 7, none⟩ (.int .u64 (ww0 (q c).2.1))).setCell ⟨w.heap.size, c * 13 + 8, none⟩ (.int .u64 (ww3 (q c).2.2))).setCell ⟨w.heap.size, c * 13 + 9, none⟩ (.int .u64 (ww2 (q c).2.2))).setCell ⟨w.heap.size, c * 13 + 10, none⟩ (.int .u64 (ww1 (q c).2.2))).setCell ⟨w.heap.size, c * 13 + 11, none⟩ (.int .u64 (ww0 (q c).2.2))).setCell ⟨w.heap.size, c * 13 + 12, none⟩ (.slice (some ⟨g, 0, none⟩) (L c) (L c))) := belowe (Nat.le_refl _) HB
     clear hB q0 q1 q2 q3 q4 q5 q6 q7 q8 q9 q10 q11 q12 hrow hA R HB RG HP HP2 TL hlr hg hgw
     go_wp2
     go_roundw
     case rel => exact ⟨c + 1, _, by omega, by go_num, RN, HPN.out, HN⟩
     case measure => simp [intOf]; omega
   · obtain rfl : c = n := by omega
     have LI : Hid (EvIn wr (some ⟨w.heap.size, 0, none⟩) c q (fun i => (some ⟨S' i, 0, none⟩, L i)) L E) := fun i hi => by
       refine ⟨w.heap.size, 0, rfl, R.lt, ?_, ?_, ?_, ?_, ?_, ?_, ?_, ?_, ?_, ?_, ?_, ?_, ?_, noIn_row (HP.out i hi).2⟩
       · rw [Nat.zero_add, R.cell (by omega)]
         unfold cpV
         rw [if_pos (by omega), evV0]
       · rw [Nat.zero_add, R.cell (by omega)]
         unfold cpV
         rw [if_pos (by omega), evV1]
       · rw [Nat.zero_add, R.cell (by omega)]
         unfold cpV
         rw [if_pos (by omega), evV2]
       · rw [Nat.zero_add, R.cell (by omega)]
         unfold cpV
         rw [if_pos (by omega), evV3]
       · rw [Nat.zero_add, R.cell (by omega)]
         unfold cpV
         rw [if_pos (by omega), evV4]
       · rw [Nat.zero_add, R.cell (by omega)]
         unfold cpV
         rw [if_pos (by omega), evV5]
       · rw [Nat.zero_add, R.cell (by omega)]
         unfold cpV
         rw [if_pos (by omega), evV6]
       · rw [Nat.zero_add, R.cell (by omega)]
         unfold cpV
         rw [if_pos (by omega), evV7]
       · rw [Nat.zero_add, R.cell (by omega)]
         unfold cpV
         rw [if_pos (by omega), evV8]
       · rw [Nat.zero_add, R.cell (by omega)]
         unfold cpV
         rw [if_pos (by omega), evV9]
       · rw [Nat.zero_add, R.cell (by omega)]
         unfold cpV
         rw [if_pos (by omega), evV10]
       · rw [Nat.zero_add, R.cell (by omega)]
         unfold cpV
         rw [if_pos (by omega), evV11]
       · rw [Nat.zero_add, R.cell (by omega)]
         unfold cpV
         rw [if_pos (by omega), evV12]
     clear R HS HP HL
     go_wp2
     go_ret
     exact ⟨_, _, rfl, LI.out, HB⟩
theorem eqEvent_any (ao bo : Option Addr) (m ca cb : Nat) (e : Nat → Int) (x y z : Int) (hm : m ≤ 1048576) (w : World) (hA : NoIn w ao m e) (hC : NoIn w bo m e) : Calls Tryz.prog 47 #[.agg #[.int .u64 (ww3 x), .int .u64 (ww2 x), .int .u64 (ww1 x), .int .u64 (ww0 x), .int .u64 (ww3 y), .int .u64 (ww2 y), .int .u64 (ww1 y), .int .u64 (ww0 y), .int .u64 (ww3 z), .int .u64 (ww2 z), .int .u64 (ww1 z), .int .u64 (ww0 z), .slice ao m ca], .agg #[.int .u64 (ww3 x), .int .u64 (ww2 x), .int .u64 (ww1 x), .int .u64 (ww0 x), .int .u64 (ww3 y), .int .u64 (ww2 y), .int .u64 (ww1 y), .int .u64 (ww0 y), .int .u64 (ww3 z), .int .u64 (ww2 z), .int .u64 (ww1 z), .int .u64 (ww0 z), .slice bo m cb]] w (BoolP true w) := by
 have HB : Below w.heap.size w ((w.alloc (.cells #[.int .u64 (ww3 x), .int .u64 (ww2 x), .int .u64 (ww1 x), .int .u64 (ww0 x), .int .u64 (ww3 y), .int .u64 (ww2 y), .int .u64 (ww1 y), .int .u64 (ww0 y), .int .u64 (ww3 z), .int .u64 (ww2 z), .int .u64 (ww1 z), .int .u64 (ww0 z), .slice ao m ca] 81)).alloc (.cells #[.int .u64 (ww3 x), .int .u64 (ww2 x), .int .u64 (ww1 x), .int .u64 (ww0 x), .int .u64 (ww3 y), .int .u64 (ww2 y), .int .u64 (ww1 y), .int .u64 (ww0 y), .int .u64 (ww3 z), .int .u64 (ww2 z), .int .u64 (ww1 z), .int .u64 (ww0 z), .slice bo m cb] 81)) := ((Below.refl _ w).alloc (Nat.le_refl _) _).alloc (by simp) _
 have B0 := (Blk.new w [.int .u64 (ww3 x), .int .u64 (ww2 x), .int .u64 (ww1 x), .int .u64 (ww0 x), .int .u64 (ww3 y), .int .u64 (ww2 y), .int .u64 (ww1 y), .int .u64 (ww0 y), .int .u64 (ww3 z), .int .u64 (ww2 z), .int .u64 (ww1 z), .int .u64 (ww0 z), .slice ao m ca] 81 rfl).alloc (.cells #[.int .u64 (ww3 x), .int .u64 (ww2 x), .int .u64 (ww1 x), .int .u64 (ww0 x), .int .u64 (ww3 y), .int .u64 (ww2 y), .int .u64 (ww1 y), .int .u64 (ww0 y), .int .u64 (ww3 z), .int .u64 (ww2 z), .int .u64 (ww1 z), .int .u64 (ww0 z), .slice bo m cb] 81)
 have B1 := Blk.new (w.alloc (.cells #[.int .u64 (ww3 x), .int .u64 (ww2 x), .int .u64 (ww1 x), .int .u64 (ww0 x), .int .u64 (ww3 y), .int .u64 (ww2 y), .int .u64 (ww1 y), .int .u64 (ww0 y), .int .u64 (ww3 z), .int .u64 (ww2 z), .int .u64 (ww1 z), .int .u64 (ww0 z), .slice ao m ca] 81)) [.int .u64 (ww3 x), .int .u64 (ww2 x), .int .u64 (ww1 x), .int .u64 (ww0 x), .int .u64 (ww3 y), .int .u64 (ww2 y), .int .u64 (ww1 y), .int .u64 (ww0 y), .int .u64 (ww3 z), .int .u64 (ww2 z), .int .u64 (ww1 z), .int .u64 (ww0 z), .slice bo m cb] 81 (g := w.heap.size + 1) (by simp)
 have HA : Hid (NoIn w ao m e) := hA
 have HC : Hid (NoIn w bo m e) := hC
 have EP := eqPoint_same (ww3 x) (ww2 x) (ww1 x) (ww0 x) (ww3 y) (ww2 y) (ww1 y) (ww0 y) (ww3 z) (ww2 z) (ww1 z) (ww0 z)
 have EN := fun w h h' => eqNoS_any ao bo m ca cb e hm w h h'
 clear hA hC
 go_enter Tryz.func47, Tryz.ntmps47
 have b0 := B0.c 0 rfl; have b1 := B0.c 1 rfl; have b2 := B0.c 2 rfl; have b3 := B0.c 3 rfl; have b4 := B0.c 4 rfl; have b5 := B0.c 5 rfl; have b6 := B0.c 6 rfl; have b7 := B0.c 7 rfl; have b8 := B0.c 8 rfl; have b9 := B0.c 9 rfl; have b10 := B0.c 10 rfl; have b11 := B0.c 11 rfl; have b12 := B0.c 12 rfl; have d0 := B1.c 0 rfl; have d1 := B1.c 1 rfl; have d2 := B1.c 2 rfl; have d3 := B1.c 3 rfl; have d4 := B1.c 4 rfl; have d5 := B1.c 5 rfl; have d6 := B1.c 6 rfl; have d7 := B1.c 7 rfl; have d8 := B1.c 8 rfl; have d9 := B1.c 9 rfl; have d10 := B1.c 10 rfl; have d11 := B1.c 11 rfl; have d12 := B1.c 12 rfl
 go_wp2_with fail
 clear b0 b1 b2 b3 b4 b5 b6 b7 b8 b9 b10 b11 b12 d0 d1 d2 d3 d4 d5 d6 d7 d8 d9 d10 d11 d12
 generalize ((w.alloc (.cells #[.int .u64 (ww3 x), .int .u64 (ww2 x), .int .u64 (ww1 x), .int .u64 (ww0 x), .int .u64 (ww3 y), .int .u64 (ww2 y), .int .u64 (ww1 y), .int .u64 (ww0 y), .int .u64 (ww3 z), .int .u64 (ww2 z), .int .u64 (ww1 z), .int .u64 (ww0 z), .slice ao m ca] 81)).alloc (.cells #[.int .u64 (ww3 x), .int .u64 (ww2 x), .int .u64 (ww1 x), .int .u64 (ww0 x), .int .u64 (ww3 y), .int .u64 (ww2 y), .int .u64 (ww1 y), .int .u64 (ww0 y), .int .u64 (ww3 z), .int .u64 (ww2 z), .int .u64 (ww1 z), .int .u64 (ww0 z), .slice bo m cb] 81)) = W3 at *
 refine (EP _).mono ?_
 rintro e1 w1 ⟨rfl, hB⟩
 replace B0 := B0.step hB; replace B1 := B1.step hB
 replace HB := HB.trans (hB.mono HB.size)
 clear hB EP
 have b12 := B0.c 12 rfl; have d12 := B1.c 12 rfl
 go_wp2_with fail
 refine (EN _ (HA.out.step HB) (HC.out.step HB)).mono ?_
 rintro e2 w2 ⟨rfl, hB⟩
 replace HB := HB.trans (hB.mono HB.size)
 clear hB EN HA HC B0 B1 b12 d12
 go_wp2
 go_ret
 exact ⟨rfl, HB⟩
def VevE (n ca cb A off Bb of2 c m mc md : Nat) (eo fo : Option Addr) (x y z : Int) (_B : Nat) : Nat → Value → World → Prop
 | 0, v, _ => v = .slice (some ⟨A, off, none⟩) n ca
 | 1, v, _ => v = .int .i64 (c : Int)
 | 2, v, _ => v = .pointer (some ⟨A, off + c * 13, none⟩)
 | 3, v, _ => v = .agg #[.int .u64 (ww3 x), .int .u64 (ww2 x), .int .u64 (ww1 x), .int .u64 (ww0 x), .int .u64 (ww3 y), .int .u64 (ww2 y), .int .u64 (ww1 y), .int .u64 (ww0 y), .int .u64 (ww3 z), .int .u64 (ww2 z), .int .u64 (ww1 z), .int .u64 (ww0 z), .slice eo m mc]
 | 4, v, _ => v = .slice (some ⟨Bb, of2, none⟩) n cb
 | 5, v, _ => v = .int .i64 (c : Int)
 | 6, v, _ => v = .pointer (some ⟨Bb, of2 + c * 13, none⟩)
 | 7, v, _ => v = .agg #[.int .u64 (ww3 x), .int .u64 (ww2 x), .int .u64 (ww1 x), .int .u64 (ww0 x), .int .u64 (ww3 y), .int .u64 (ww2 y), .int .u64 (ww1 y), .int .u64 (ww0 y), .int .u64 (ww3 z), .int .u64 (ww2 z), .int .u64 (ww1 z), .int .u64 (ww0 z), .slice fo m md]
 | 8, v, _ => v = .bool true
 | 9, v, _ => v = .bool false
 | _, _, _ => True
theorem VevE.mono {n ca cb A off Bb of2 c m mc md : Nat} {eo fo : Option Addr} {x y z : Int} {B j : Nat} {v : Value} {W W2 : World} (_hB : Below W.heap.size W W2) (h : VevE n ca cb A off Bb of2 c m mc md eo fo x y z B j v W) : VevE n ca cb A off Bb of2 c m mc md eo fo x y z B j v W2 := by
 unfold VevE at *
 split <;> simp only at h <;> first | exact h | trivial
theorem evE {Q : Exit → Act → World → Prop} {n ca cb A off Bb of2 c m mc md : Nat} {eo fo : Option Addr} {x y z : Int} {xs : Nat → Int} {w0 : World} {a0 : Act} {idq : Nat} {t0 t1 t2 t3 t4 t5 t6 t7 t8 t9 : TypeId} {q0 q1 q2 q3 q4 q5 q6 q7 q8 q9 : String}
   (hc : c < n) (hn : n ≤ 1048576) (hm : m ≤ 1048576) (hNa : NoIn w0 eo m xs) (hNb : NoIn w0 fo m xs) (h0 : a0.tmps[0]? = some (.slice (some ⟨A, off, none⟩) n ca)) (h1 : a0.tmps[1]? = some (.slice (some ⟨Bb, of2, none⟩) n cb)) (h5 : a0.tmps[5]? = some (.int .i64 (c : Int))) (k0 : w0.cell? ⟨A, off + c * 13, none⟩ = some (.int .u64 (ww3 x))) (l0 : (⟨A, off + c * 13, none⟩ : Addr).block < w0.heap.size) (k1 : w0.cell? ⟨A, off + c * 13 + 1, none⟩ = some (.int .u64 (ww2 x))) (l1 : (⟨A, off + c * 13 + 1, none⟩ : Addr).block < w0.heap.size) (k2 : w0.cell? ⟨A, off + c * 13 + 2, none⟩ = some (.int .u64 (ww1 x))) (l2 : (⟨A, off + c * 13 + 2, none⟩ : Addr).block < w0.heap.size) (k3 : w0.cell? ⟨A, off + c * 13 + 3, none⟩ = some (.int .u64 (ww0 x))) (l3 : (⟨A, off + c * 13 + 3, none⟩ : Addr).block < w0.heap.size) (k4 : w0.cell? ⟨A, off + c * 13 + 4, none⟩ = some (.int .u64 (ww3 y))) (l4 : (⟨A, off + c * 13 + 4, none⟩ : Addr).block < w0.heap.size) (k5 : w0.cell? ⟨A, off + c * 13 + 5, none⟩ = some (.int .u64 (ww2 y))) (l5 : (⟨A, off + c * 13 + 5, none⟩ : Addr).block < w0.heap.size) (k6 : w0.cell? ⟨A, off + c * 13 + 6, none⟩ = some (.int .u64 (ww1 y))) (l6 : (⟨A, off + c * 13 + 6, none⟩ : Addr).block < w0.heap.size) (k7 : w0.cell? ⟨A, off + c * 13 + 7, none⟩ = some (.int .u64 (ww0 y))) (l7 : (⟨A, off + c * 13 + 7, none⟩ : Addr).block < w0.heap.size) (k8 : w0.cell? ⟨A, off + c * 13 + 8, none⟩ = some (.int .u64 (ww3 z))) (l8 : (⟨A, off + c * 13 + 8, none⟩ : Addr).block < w0.heap.size) (k9 : w0.cell? ⟨A, off + c * 13 + 9, none⟩ = some (.int .u64 (ww2 z))) (l9 : (⟨A, off + c * 13 + 9, none⟩ : Addr).block < w0.heap.size) (k10 : w0.cell? ⟨A, off + c * 13 + 10, none⟩ = some (.int .u64 (ww1 z))) (l10 : (⟨A, off + c * 13 + 10, none⟩ : Addr).block < w0.heap.size) (k11 : w0.cell? ⟨A, off + c * 13 + 11, none⟩ = some (.int .u64 (ww0 z))) (l11 : (⟨A, off + c * 13 + 11, none⟩ : Addr).block < w0.heap.size) (k12 : w0.cell? ⟨A, off + c * 13 + 12, none⟩ = some (.slice eo m mc)) (l12 : (⟨A, off + c * 13 + 12, none⟩ : Addr).block < w0.heap.size) (k13 : w0.cell? ⟨Bb, of2 + c * 13, none⟩ = some (.int .u64 (ww3 x))) (l13 : (⟨Bb, of2 + c * 13, none⟩ : Addr).block < w0.heap.size) (k14 : w0.cell? ⟨Bb, of2 + c * 13 + 1, none⟩ = some (.int .u64 (ww2 x))) (l14 : (⟨Bb, of2 + c * 13 + 1, none⟩ : Addr).block < w0.heap.size) (k15 : w0.cell? ⟨Bb, of2 + c * 13 + 2, none⟩ = some (.int .u64 (ww1 x))) (l15 : (⟨Bb, of2 + c * 13 + 2, none⟩ : Addr).block < w0.heap.size) (k16 : w0.cell? ⟨Bb, of2 + c * 13 + 3, none⟩ = some (.int .u64 (ww0 x))) (l16 : (⟨Bb, of2 + c * 13 + 3, none⟩ : Addr).block < w0.heap.size) (k17 : w0.cell? ⟨Bb, of2 + c * 13 + 4, none⟩ = some (.int .u64 (ww3 y))) (l17 : (⟨Bb, of2 + c * 13 + 4, none⟩ : Addr).block < w0.heap.size) (k18 : w0.cell? ⟨Bb, of2 + c * 13 + 5, none⟩ = some (.int .u64 (ww2 y))) (l18 : (⟨Bb, of2 + c * 13 + 5, none⟩ : Addr).block < w0.heap.size) (k19 : w0.cell? ⟨Bb, of2 + c * 13 + 6, none⟩ = some (.int .u64 (ww1 y))) (l19 : (⟨Bb, of2 + c * 13 + 6, none⟩ : Addr).block < w0.heap.size) (k20 : w0.cell? ⟨Bb, of2 + c * 13 + 7, none⟩ = some (.int .u64 (ww0 y))) (l20 : (⟨Bb, of2 + c * 13 + 7, none⟩ : Addr).block < w0.heap.size) (k21 : w0.cell? ⟨Bb, of2 + c * 13 + 8, none⟩ = some (.int .u64 (ww3 z))) (l21 : (⟨Bb, of2 + c * 13 + 8, none⟩ : Addr).block < w0.heap.size) (k22 : w0.cell? ⟨Bb, of2 + c * 13 + 9, none⟩ = some (.int .u64 (ww2 z))) (l22 : (⟨Bb, of2 + c * 13 + 9, none⟩ : Addr).block < w0.heap.size) (k23 : w0.cell? ⟨Bb, of2 + c * 13 + 10, none⟩ = some (.int .u64 (ww1 z))) (l23 : (⟨Bb, of2 + c * 13 + 10, none⟩ : Addr).block < w0.heap.size) (k24 : w0.cell? ⟨Bb, of2 + c * 13 + 11, none⟩ = some (.int .u64 (ww0 z))) (l24 : (⟨Bb, of2 + c * 13 + 11, none⟩ : Addr).block < w0.heap.size) (k25 : w0.cell? ⟨Bb, of2 + c * 13 + 12, none⟩ = some (.slice fo m md)) (l25 : (⟨Bb, of2 + c * 13 + 12, none⟩ : Addr).block < w0.heap.size) (hz : a0.tmps.size = 27)
   (hQ : ∀ aq W, aq.tmps.size = a0.tmps.size → aq.defers = a0.defers → (∀ e, e ∉ ([17, 18, 19, 20, 21, 22, 23, 24, 25, 26] : List Nat) → aq.tmps[e]? = a0.tmps[e]?) → VevE n ca cb A off Bb of2 c m mc md eo fo x y z w0.heap.size 9 (aq.tmps.getD 26 undef) W → Below w0.heap.size w0 W → Q .normal aq W) :
   (Code.region idq #[{ dst := some 17, op := Op.move (.tmp 0), type := t0, pos := q0, after := #[], guard := none },
   { dst := some 18, op := Op.move (.tmp 5), type := t1, pos := q1, after := #[], guard := none },
   { dst := some 19, op := Op.indexAddr 44 (.tmp 17) (.tmp 18), type := t2, pos := q2, after := #[⟨0, .data⟩, ⟨1, .data⟩], guard := none },
   { dst := some 20, op := Op.load 81 (.tmp 19), type := t3, pos := q3, after := #[⟨2, .data⟩], guard := none },
   { dst := some 21, op := Op.move (.tmp 1), type := t4, pos := q4, after := #[], guard := none },
   { dst := some 22, op := Op.move (.tmp 5), type := t5, pos := q5, after := #[], guard := none },
   { dst := some 23, op := Op.indexAddr 44 (.tmp 21) (.tmp 22), type := t6, pos := q6, after := #[⟨4, .data⟩, ⟨5, .data⟩], guard := none },
   { dst := some 24, op := Op.load 81 (.tmp 23), type := t7, pos := q7, after := #[⟨6, .data⟩], guard := none },
   { dst := some 25, op := Op.call { callee := Callee.value (Operand.func 47), args := #[.tmp 20, .tmp 24], argTypes := #[81, 81] }, type := t8, pos := q8, after := #[⟨3, .data⟩, ⟨7, .data⟩], guard := none },
   { dst := some 26, op := Op.unOp UnOp.not 4 (.tmp 25), type := t9, pos := q9, after := #[⟨8, .data⟩], guard := none }] true).wp Tryz.prog Q a0 w0 := by
 have hS : distS [some 17, some 18, some 19, some 20, some 21, some 22, some 23, some 24, some 25, some 26] = true := rfl
 refine wp_region_q (by kernel_rfl) w0.heap.size [some 17, some 18, some 19, some 20, some 21, some 22, some 23, some 24, some 25, some 26] (VevE n ca cb A off Bb of2 c m mc md eo fo x y z w0.heap.size) rfl ?_ ?_
 · intro Q lq aq W iq oq hJ hl ho hall
   have hJ2 := hJ
   obtain ⟨z1, z2, z3, z4, z5, z6, z7⟩ := hJ
   have g0 : aq.tmps.getD 0 undef = .slice (some ⟨A, off, none⟩) n ca := by rw [Array.getD_eq_getD_getElem?, z4 0 (by decide), h0]; rfl
   have g1 : aq.tmps.getD 1 undef = .slice (some ⟨Bb, of2, none⟩) n cb := by rw [Array.getD_eq_getD_getElem?, z4 1 (by decide), h1]; rfl
   have g5 : aq.tmps.getD 5 undef = .int .i64 (c : Int) := by rw [Array.getD_eq_getD_getElem?, z4 5 (by decide), h5]; rfl
   have c0 : W.cell? ⟨A, off + c * 13, none⟩ = some (.int .u64 (ww3 x)) := (z5.cell l0).trans k0
   have c1 : W.cell? ⟨A, off + c * 13 + 1, none⟩ = some (.int .u64 (ww2 x)) := (z5.cell l1).trans k1
   have c2 : W.cell? ⟨A, off + c * 13 + 2, none⟩ = some (.int .u64 (ww1 x)) := (z5.cell l2).trans k2
   have c3 : W.cell? ⟨A, off + c * 13 + 3, none⟩ = some (.int .u64 (ww0 x)) := (z5.cell l3).trans k3
   have c4 : W.cell? ⟨A, off + c * 13 + 4, none⟩ = some (.int .u64 (ww3 y)) := (z5.cell l4).trans k4
   have c5 : W.cell? ⟨A, off + c * 13 + 5, none⟩ = some (.int .u64 (ww2 y)) := (z5.cell l5).trans k5
   have c6 : W.cell? ⟨A, off + c * 13 + 6, none⟩ = some (.int .u64 (ww1 y)) := (z5.cell l6).trans k6
   have c7 : W.cell? ⟨A, off + c * 13 + 7, none⟩ = some (.int .u64 (ww0 y)) := (z5.cell l7).trans k7
   have c8 : W.cell? ⟨A, off + c * 13 + 8, none⟩ = some (.int .u64 (ww3 z)) := (z5.cell l8).trans k8
   have c9 : W.cell? ⟨A, off + c * 13 + 9, none⟩ = some (.int .u64 (ww2 z)) := (z5.cell l9).trans k9
   have c10 : W.cell? ⟨A, off + c * 13 + 10, none⟩ = some (.int .u64 (ww1 z)) := (z5.cell l10).trans k10
   have c11 : W.cell? ⟨A, off + c * 13 + 11, none⟩ = some (.int .u64 (ww0 z)) := (z5.cell l11).trans k11
   have c12 : W.cell? ⟨A, off + c * 13 + 12, none⟩ = some (.slice eo m mc) := (z5.cell l12).trans k12
   have c13 : W.cell? ⟨Bb, of2 + c * 13, none⟩ = some (.int .u64 (ww3 x)) := (z5.cell l13).trans k13
   have c14 : W.cell? ⟨Bb, of2 + c * 13 + 1, none⟩ = some (.int .u64 (ww2 x)) := (z5.cell l14).trans k14
   have c15 : W.cell? ⟨Bb, of2 + c * 13 + 2, none⟩ = some (.int .u64 (ww1 x)) := (z5.cell l15).trans k15
   have c16 : W.cell? ⟨Bb, of2 + c * 13 + 3, none⟩ = some (.int .u64 (ww0 x)) := (z5.cell l16).trans k16
   have c17 : W.cell? ⟨Bb, of2 + c * 13 + 4, none⟩ = some (.int .u64 (ww3 y)) := (z5.cell l17).trans k17
   have c18 : W.cell? ⟨Bb, of2 + c * 13 + 5, none⟩ = some (.int .u64 (ww2 y)) := (z5.cell l18).trans k18
   have c19 : W.cell? ⟨Bb, of2 + c * 13 + 6, none⟩ = some (.int .u64 (ww1 y)) := (z5.cell l19).trans k19
   have c20 : W.cell? ⟨Bb, of2 + c * 13 + 7, none⟩ = some (.int .u64 (ww0 y)) := (z5.cell l20).trans k20
   have c21 : W.cell? ⟨Bb, of2 + c * 13 + 8, none⟩ = some (.int .u64 (ww3 z)) := (z5.cell l21).trans k21
   have c22 : W.cell? ⟨Bb, of2 + c * 13 + 9, none⟩ = some (.int .u64 (ww2 z)) := (z5.cell l22).trans k22
   have c23 : W.cell? ⟨Bb, of2 + c * 13 + 10, none⟩ = some (.int .u64 (ww1 z)) := (z5.cell l23).trans k23
   have c24 : W.cell? ⟨Bb, of2 + c * 13 + 11, none⟩ = some (.int .u64 (ww0 z)) := (z5.cell l24).trans k24
   have c25 : W.cell? ⟨Bb, of2 + c * 13 + 12, none⟩ = some (.slice fo m md) := (z5.cell l25).trans k25
   match iq, ho with
   | 0, ho =>
     cases ho
     refine wpOp_of rfl rfl ?_
     have hK := fun (v : Value) (W2 : World) hW hT hv => hJ2.put hS 0 17 rfl (by omega) (W' := W2) hW hT v hv
     clear ho hall hl hQ
     generalize InvQ _ _ _ w0 a0 (lq.setIfInBounds 0 true) = K at hK ⊢
     clear hJ2 hS z1 z2 z3 z4 z6 z7
     go_simp
     exact hK _ _ z5 (fun _ _ h => h) rfl
   | 1, ho =>
     cases ho
     refine wpOp_of rfl rfl ?_
     have hK := fun (v : Value) (W2 : World) hW hT hv => hJ2.put hS 1 18 rfl (by omega) (W' := W2) hW hT v hv
     clear ho hall hl hQ
     generalize InvQ _ _ _ w0 a0 (lq.setIfInBounds 1 true) = K at hK ⊢
     clear hJ2 hS z1 z2 z3 z4 z6 z7
     go_simp
     exact hK _ _ z5 (fun _ _ h => h) rfl
   | 2, ho =>
     cases ho
     refine wpOp_of rfl rfl ?_
     have f0 : (aq.tmps.getD 17 undef) = .slice (some ⟨A, off, none⟩) n ca := z6 0 17 (hall ⟨0, .data⟩ (by simp) rfl) rfl
     have f1 : (aq.tmps.getD 18 undef) = .int .i64 (c : Int) := z6 1 18 (hall ⟨1, .data⟩ (by simp) rfl) rfl
     have hcI : (c : Int) < n := by omega
     have hnI : (n : Int) ≤ 1048576 := by omega
     have hK := fun (v : Value) (W2 : World) hW hT hv => hJ2.put hS 2 19 rfl (by omega) (W' := W2) hW hT v hv
     clear ho hall hl hQ
     generalize InvQ _ _ _ w0 a0 (lq.setIfInBounds 2 true) = K at hK ⊢
     clear hJ2 hS z1 z2 z3 z4 z6 z7
     go_simp
     exact hK _ _ z5 (fun _ _ h => h) rfl
   | 3, ho =>
     cases ho
     refine wpOp_of rfl rfl ?_
     have f2 : (aq.tmps.getD 19 undef) = .pointer (some ⟨A, off + c * 13, none⟩) := z6 2 19 (hall ⟨2, .data⟩ (by simp) rfl) rfl
     have hK := fun (v : Value) (W2 : World) hW hT hv => hJ2.put hS 3 20 rfl (by omega) (W' := W2) hW hT v hv
     clear ho hall hl hQ
     generalize InvQ _ _ _ w0 a0 (lq.setIfInBounds 3 true) = K at hK ⊢
     clear hJ2 hS z1 z2 z3 z4 z6 z7
     go_simp
     exact hK _ _ z5 (fun _ _ h => h) rfl
   | 4, ho =>
     cases ho
     refine wpOp_of rfl rfl ?_
     have hK := fun (v : Value) (W2 : World) hW hT hv => hJ2.put hS 4 21 rfl (by omega) (W' := W2) hW hT v hv
     clear ho hall hl hQ
     generalize InvQ _ _ _ w0 a0 (lq.setIfInBounds 4 true) = K at hK ⊢
     clear hJ2 hS z1 z2 z3 z4 z6 z7
     go_simp
     exact hK _ _ z5 (fun _ _ h => h) rfl
   | 5, ho =>
     cases ho
     refine wpOp_of rfl rfl ?_
     have hK := fun (v : Value) (W2 : World) hW hT hv => hJ2.put hS 5 22 rfl (by omega) (W' := W2) hW hT v hv
     clear ho hall hl hQ
     generalize InvQ _ _ _ w0 a0 (lq.setIfInBounds 5 true) = K at hK ⊢
     clear hJ2 hS z1 z2 z3 z4 z6 z7
     go_simp
     exact hK _ _ z5 (fun _ _ h => h) rfl
   | 6, ho =>
     cases ho
     refine wpOp_of rfl rfl ?_
     have f4 : (aq.tmps.getD 21 undef) = .slice (some ⟨Bb, of2, none⟩) n cb := z6 4 21 (hall ⟨4, .data⟩ (by simp) rfl) rfl
     have f5 : (aq.tmps.getD 22 undef) = .int .i64 (c : Int) := z6 5 22 (hall ⟨5, .data⟩ (by simp) rfl) rfl
     have hcI : (c : Int) < n := by omega
     have hnI : (n : Int) ≤ 1048576 := by omega
     have hK := fun (v : Value) (W2 : World) hW hT hv => hJ2.put hS 6 23 rfl (by omega) (W' := W2) hW hT v hv
     clear ho hall hl hQ
     generalize InvQ _ _ _ w0 a0 (lq.setIfInBounds 6 true) = K at hK ⊢
     clear hJ2 hS z1 z2 z3 z4 z6 z7
     go_simp
     exact hK _ _ z5 (fun _ _ h => h) rfl
   | 7, ho =>
     cases ho
     refine wpOp_of rfl rfl ?_
     have f6 : (aq.tmps.getD 23 undef) = .pointer (some ⟨Bb, of2 + c * 13, none⟩) := z6 6 23 (hall ⟨6, .data⟩ (by simp) rfl) rfl
     have hK := fun (v : Value) (W2 : World) hW hT hv => hJ2.put hS 7 24 rfl (by omega) (W' := W2) hW hT v hv
     clear ho hall hl hQ
     generalize InvQ _ _ _ w0 a0 (lq.setIfInBounds 7 true) = K at hK ⊢
     clear hJ2 hS z1 z2 z3 z4 z6 z7
     go_simp
     exact hK _ _ z5 (fun _ _ h => h) rfl
   | 8, ho =>
     cases ho
     refine wpOp_of rfl rfl ?_
     have f3 : (aq.tmps.getD 20 undef) = .agg #[.int .u64 (ww3 x), .int .u64 (ww2 x), .int .u64 (ww1 x), .int .u64 (ww0 x), .int .u64 (ww3 y), .int .u64 (ww2 y), .int .u64 (ww1 y), .int .u64 (ww0 y), .int .u64 (ww3 z), .int .u64 (ww2 z), .int .u64 (ww1 z), .int .u64 (ww0 z), .slice eo m mc] := z6 3 20 (hall ⟨3, .data⟩ (by simp) rfl) rfl
     have f7 : (aq.tmps.getD 24 undef) = .agg #[.int .u64 (ww3 x), .int .u64 (ww2 x), .int .u64 (ww1 x), .int .u64 (ww0 x), .int .u64 (ww3 y), .int .u64 (ww2 y), .int .u64 (ww1 y), .int .u64 (ww0 y), .int .u64 (ww3 z), .int .u64 (ww2 z), .int .u64 (ww1 z), .int .u64 (ww0 z), .slice fo m md] := z6 7 24 (hall ⟨7, .data⟩ (by simp) rfl) rfl
     have hK := fun (v : Value) (W2 : World) hW hT hv => hJ2.put hS 8 25 rfl (by omega) (W' := W2) hW hT v hv
     clear ho hall hl hQ
     generalize InvQ _ _ _ w0 a0 (lq.setIfInBounds 8 true) = K at hK ⊢
     clear hJ2 hS z1 z2 z3 z4 z6 z7
     go_simp
     refine (eqEvent_any eo fo m mc md xs x y z hm W (hNa.step z5) (hNb.step z5)).mono ?_
     rintro e v1 ⟨rfl, hBv⟩
     exact hK _ _ (z5.trans (hBv.mono z5.size)) (fun j v h => h.mono hBv) rfl
   | 9, ho =>
     cases ho
     refine wpOp_of rfl rfl ?_
     have f8 : (aq.tmps.getD 25 undef) = .bool true := z6 8 25 (hall ⟨8, .data⟩ (by simp) rfl) rfl
     have hK := fun (v : Value) (W2 : World) hW hT hv => hJ2.put hS 9 26 rfl (by omega) (W' := W2) hW hT v hv
     clear ho hall hl hQ
     generalize InvQ _ _ _ w0 a0 (lq.setIfInBounds 9 true) = K at hK ⊢
     clear hJ2 hS z1 z2 z3 z4 z6 z7
     go_simp
     exact hK _ _ z5 (fun _ _ h => h) rfl
   | iq + 10, ho => simp at ho
 · intro lq aq W hJ hr
   obtain ⟨z1, z2, z3, z4, z5, z6, z7⟩ := hJ
   have hl := listed_of hr [0, 1, 2, 3, 4, 5, 6, 7, 8, 9] [] (by simp) (by kernel_rfl) (by rw [z1]; decide)
   exact hQ aq W z2 z3 (fun e he => z4 e (by simpa using he)) (z6 9 26 (hl 9 (by simp)) rfl) z5
theorem eqEventS_any (ao bo : Option Addr) (n ca cb : Nat) (q : Nat → Int × Int × Int) (S S' : Nat → Option Addr × Nat) (L : Nat → Nat) (E : Nat → Nat → Int) (hn : n ≤ 1048576) (hL : ∀ i, i < n → L i ≤ 1048576) (w : World) (hA : EvIn w ao n q S L E) (hC : EvIn w bo n q S' L E) : Calls Tryz.prog 19 #[.slice ao n ca, .slice bo n cb] w (BoolP true w) := by
 have HA : Hid (EvIn w ao n q S L E) := hA
 have HC : Hid (EvIn w bo n q S' L E) := hC
 have HL : Hid (∀ i, i < n → L i ≤ 1048576) := hL
 have hnI : (n : Int) ≤ 1048576 := by omega
 clear hA hC hL
 go_enter Tryz.func19, Tryz.ntmps19
 go_wp2_with fail
 go_loopw [5] (fun i wr => ∃ c : Nat, c ≤ n ∧ i = .int .i64 c ∧ Below w.heap.size w wr) (fun i _ => n - (intOf i).toNat)
 case atStart => exact ⟨0, by omega, rfl, Below.refl _ _⟩
 case round =>
   obtain ⟨c, hc, rfl, HB⟩ := hrel
   by_cases hcn : c < n
   · obtain ⟨A, off, rfl, hA, q0, q1, q2, q3, q4, q5, q6, q7, q8, q9, q10, q11, q12, hra⟩ := HA.out.step HB c hcn
     obtain ⟨Bb, of2, rfl, hB', r0, r1, r2, r3, r4, r5, r6, r7, r8, r9, r10, r11, r12, hrb⟩ := HC.out.step HB c hcn
     have hcI : (c : Int) < n := by omega
     go_upto_region 6 with fail
     go_cut [26] (fun zv wx => zv = .bool false ∧ Below wr.heap.size wr wx)
     case first =>
       refine evE (n := n) (ca := ca) (cb := cb) (A := A) (off := off) (Bb := Bb) (of2 := of2) (c := c) (m := L c) (mc := (S c).2) (md := (S' c).2) (eo := (S c).1) (fo := (S' c).1) (x := (q c).1) (y := (q c).2.1) (z := (q c).2.2) (xs := E c) hcn hn (HL.out c hcn) hra hrb rfl rfl rfl q0 hA q1 hA q2 hA q3 hA q4 hA q5 hA q6 hA q7 hA q8 hA q9 hA q10 hA q11 hA q12 hA r0 hB' r1 hB' r2 hB' r3 hB' r4 hB' r5 hB' r6 hB' r7 hB' r8 hB' r9 hB' r10 hB' r11 hB' r12 hB' rfl ?_
       rintro ⟨tm, df⟩ Wz hz hdf hoff hx hBz
       simp only at hz hdf hoff hx
       change tm.getD 26 undef = .bool false at hx
       subst hdf
       have htm := tmps_fold [17, 18, 19, 20, 21, 22, 23, 24, 25, 26] tm _ hz hoff
       simp only [List.foldl, List.setIfInBounds_toArray, List.set_cons_zero, List.set_cons_succ, hx] at htm
       clear hz hoff
       generalize tm.getD 17 undef = u0, tm.getD 18 undef = u1, tm.getD 19 undef = u2, tm.getD 20 undef = u3, tm.getD 21 undef = u4, tm.getD 22 undef = u5, tm.getD 23 undef = u6, tm.getD 24 undef = u7, tm.getD 25 undef = u8 at htm
       clear hx
       subst htm
       go_wp2_with fail
       go_meet
       exact ⟨rfl, hBz⟩
     case rest =>
       obtain ⟨hq2, hBc⟩ := hcut
       subst hq2
       have HBN := HB.trans (hBc.mono HB.size)
       clear hBc HB q0 q1 q2 q3 q4 q5 q6 q7 q8 q9 q10 q11 q12 r0 r1 r2 r3 r4 r5 r6 r7 r8 r9 r10 r11 r12 hra hrb hA hB'
       go_wp2
       go_roundw
       case rel => exact ⟨c + 1, by omega, by go_num, HBN⟩
       case measure => simp [intOf]; omega
   · obtain rfl : c = n := by omega
     clear HA HC HL
     go_wp2
     go_ret
     exact ⟨rfl, HB⟩
theorem getD_tf {l : Array Bool} {i : Nat} (h : l.getD i true = false) : l.getD i false = false := by
 rw [Array.getD_eq_getD_getElem?] at *
 cases hh : l[i]? with
 | none => rw [hh] at h; cases h
 | some b => rw [hh] at h; exact h
theorem getD_set_neq {l : Array Bool} {i j : Nat} (h : i ≠ j) : (l.setIfInBounds i true).getD j false = l.getD j false := by
 simp [Array.getD_eq_getD_getElem?, Array.getElem?_setIfInBounds_ne h]
theorem getD_set_eq {l : Array Bool} {i : Nat} (h : l.getD i true = false) : (l.setIfInBounds i true).getD i false = true := by
 rw [Array.getD_eq_getD_getElem?] at *
 cases hh : l[i]? with
 | none => rw [hh] at h; cases h
 | some b => simp [(Array.getElem?_eq_some_iff.1 hh).1]
theorem ownA_step {w w' : World} {base n : Nat} {e : TypeId} {size : Nat} {v : Value} {xs : List Value} (h : w.ownsRow base e size v n xs) (hB : Below w.heap.size w w') : w'.ownsRow base e size v n xs := by
 rcases h with ⟨h0, h1 | ⟨g, cap, cur, h1, h2, h3, h4⟩⟩
 · exact ⟨h0, .inl h1⟩
 · refine ⟨h0, .inr ⟨g, cap, cur, h1, h2, ?_, h4⟩⟩
   rw [hB.block g (Array.getElem?_eq_some_iff.1 h3).1]
   exact h3
theorem replD (n j : Nat) : (Array.replicate n false).getD j false = false := by
 rw [Array.getD_eq_getD_getElem?, Array.getElem?_replicate]
 split <;> rfl
end Go.Proofs.YtpmnmlhfaoajdaaGreat
