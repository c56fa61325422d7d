/- Part 10 of the walks that the proof leans on. -/
import Derived.Test.YtpmnmlhfaoajdaaGreatHt8
import Derived.Test.YtpmnmlhfaoajdaaGreatHt9
/- The determinant of three points and its sign, the turn: the program's walks. -/
namespace Go.Proofs.YtpmnmlhfaoajdaaGreat
open Go.RowKit
theorem t3_cells {x y z u v t a b c : Int} {w W : World} (T0 : ArgsB w W [[.int .u64 (ww3 x), .int .u64 (ww2 x), .int .u64 (ww1 x), .int .u64 (ww0 x), .int .u64 (ww3 y), .int .u64 (ww2 y), .int .u64 (ww1 y), .int .u64 (ww0 y), .int .u64 (ww3 z), .int .u64 (ww2 z), .int .u64 (ww1 z), .int .u64 (ww0 z)], [.int .u64 (ww3 u), .int .u64 (ww2 u), .int .u64 (ww1 u), .int .u64 (ww0 u), .int .u64 (ww3 v), .int .u64 (ww2 v), .int .u64 (ww1 v), .int .u64 (ww0 v), .int .u64 (ww3 t), .int .u64 (ww2 t), .int .u64 (ww1 t), .int .u64 (ww0 t)], [.int .u64 (ww3 a), .int .u64 (ww2 a), .int .u64 (ww1 a), .int .u64 (ww0 a), .int .u64 (ww3 b), .int .u64 (ww2 b), .int .u64 (ww1 b), .int .u64 (ww0 b), .int .u64 (ww3 c), .int .u64 (ww2 c), .int .u64 (ww1 c), .int .u64 (ww0 c)], [.int .u64 0, .int .u64 0, .int .u64 0, .int .u64 0, .int .u64 0, .int .u64 0, .int .u64 0, .int .u64 0]]) : (fun w' => w'.cell? ⟨w.heap.size, 0, none⟩ = some (.int .u64 (ww3 x)) ∧ w'.cell? ⟨w.heap.size, 1, none⟩ = some (.int .u64 (ww2 x)) ∧ w'.cell? ⟨w.heap.size, 2, none⟩ = some (.int .u64 (ww1 x)) ∧ w'.cell? ⟨w.heap.size, 3, none⟩ = some (.int .u64 (ww0 x)) ∧ w'.cell? ⟨w.heap.size, 4, none⟩ = some (.int .u64 (ww3 y)) ∧ w'.cell? ⟨w.heap.size, 5, none⟩ = some (.int .u64 (ww2 y)) ∧ w'.cell? ⟨w.heap.size, 6, none⟩ = some (.int .u64 (ww1 y)) ∧ w'.cell? ⟨w.heap.size, 7, none⟩ = some (.int .u64 (ww0 y)) ∧ w'.cell? ⟨w.heap.size, 8, none⟩ = some (.int .u64 (ww3 z)) ∧ w'.cell? ⟨w.heap.size, 9, none⟩ = some (.int .u64 (ww2 z)) ∧ w'.cell? ⟨w.heap.size, 10, none⟩ = some (.int .u64 (ww1 z)) ∧ w'.cell? ⟨w.heap.size, 11, none⟩ = some (.int .u64 (ww0 z)) ∧ w'.cell? ⟨w.heap.size + 1, 0, none⟩ = some (.int .u64 (ww3 u)) ∧ w'.cell? ⟨w.heap.size + 1, 1, none⟩ = some (.int .u64 (ww2 u)) ∧ w'.cell? ⟨w.heap.size + 1, 2, none⟩ = some (.int .u64 (ww1 u)) ∧ w'.cell? ⟨w.heap.size + 1, 3, none⟩ = some (.int .u64 (ww0 u)) ∧ w'.cell? ⟨w.heap.size + 1, 4, none⟩ = some (.int .u64 (ww3 v)) ∧ w'.cell? ⟨w.heap.size + 1, 5, none⟩ = some (.int .u64 (ww2 v)) ∧ w'.cell? ⟨w.heap.size + 1, 6, none⟩ = some (.int .u64 (ww1 v)) ∧ w'.cell? ⟨w.heap.size + 1, 7, none⟩ = some (.int .u64 (ww0 v)) ∧ w'.cell? ⟨w.heap.size + 1, 8, none⟩ = some (.int .u64 (ww3 t)) ∧ w'.cell? ⟨w.heap.size + 1, 9, none⟩ = some (.int .u64 (ww2 t)) ∧ w'.cell? ⟨w.heap.size + 1, 10, none⟩ = some (.int .u64 (ww1 t)) ∧ w'.cell? ⟨w.heap.size + 1, 11, none⟩ = some (.int .u64 (ww0 t)) ∧ w'.cell? ⟨w.heap.size + 2, 0, none⟩ = some (.int .u64 (ww3 a)) ∧ w'.cell? ⟨w.heap.size + 2, 1, none⟩ = some (.int .u64 (ww2 a)) ∧ w'.cell? ⟨w.heap.size + 2, 2, none⟩ = some (.int .u64 (ww1 a)) ∧ w'.cell? ⟨w.heap.size + 2, 3, none⟩ = some (.int .u64 (ww0 a)) ∧ w'.cell? ⟨w.heap.size + 2, 4, none⟩ = some (.int .u64 (ww3 b)) ∧ w'.cell? ⟨w.heap.size + 2, 5, none⟩ = some (.int .u64 (ww2 b)) ∧ w'.cell? ⟨w.heap.size + 2, 6, none⟩ = some (.int .u64 (ww1 b)) ∧ w'.cell? ⟨w.heap.size + 2, 7, none⟩ = some (.int .u64 (ww0 b)) ∧ w'.cell? ⟨w.heap.size + 2, 8, none⟩ = some (.int .u64 (ww3 c)) ∧ w'.cell? ⟨w.heap.size + 2, 9, none⟩ = some (.int .u64 (ww2 c)) ∧ w'.cell? ⟨w.heap.size + 2, 10, none⟩ = some (.int .u64 (ww1 c)) ∧ w'.cell? ⟨w.heap.size + 2, 11, none⟩ = some (.int .u64 (ww0 c))) W := ⟨(T0.b 0 rfl).c 0 rfl, (T0.b 0 rfl).c 1 rfl, (T0.b 0 rfl).c 2 rfl, (T0.b 0 rfl).c 3 rfl, (T0.b 0 rfl).c 4 rfl, (T0.b 0 rfl).c 5 rfl, (T0.b 0 rfl).c 6 rfl, (T0.b 0 rfl).c 7 rfl, (T0.b 0 rfl).c 8 rfl, (T0.b 0 rfl).c 9 rfl, (T0.b 0 rfl).c 10 rfl, (T0.b 0 rfl).c 11 rfl, (T0.b 1 rfl).c 0 rfl, (T0.b 1 rfl).c 1 rfl, (T0.b 1 rfl).c 2 rfl, (T0.b 1 rfl).c 3 rfl, (T0.b 1 rfl).c 4 rfl, (T0.b 1 rfl).c 5 rfl, (T0.b 1 rfl).c 6 rfl, (T0.b 1 rfl).c 7 rfl, (T0.b 1 rfl).c 8 rfl, (T0.b 1 rfl).c 9 rfl, (T0.b 1 rfl).c 10 rfl, (T0.b 1 rfl).c 11 rfl, (T0.b 2 rfl).c 0 rfl, (T0.b 2 rfl).c 1 rfl, (T0.b 2 rfl).c 2 rfl, (T0.b 2 rfl).c 3 rfl, (T0.b 2 rfl).c 4 rfl, (T0.b 2 rfl).c 5 rfl, (T0.b 2 rfl).c 6 rfl, (T0.b 2 rfl).c 7 rfl, (T0.b 2 rfl).c 8 rfl, (T0.b 2 rfl).c 9 rfl, (T0.b 2 rfl).c 10 rfl, (T0.b 2 rfl).c 11 rfl⟩
theorem t3_cells3 {x y z u v t a b c : Int} {w W : World} (T0 : ArgsB w W [[.int .u64 (ww3 x), .int .u64 (ww2 x), .int .u64 (ww1 x), .int .u64 (ww0 x), .int .u64 (ww3 y), .int .u64 (ww2 y), .int .u64 (ww1 y), .int .u64 (ww0 y), .int .u64 (ww3 z), .int .u64 (ww2 z), .int .u64 (ww1 z), .int .u64 (ww0 z)], [.int .u64 (ww3 u), .int .u64 (ww2 u), .int .u64 (ww1 u), .int .u64 (ww0 u), .int .u64 (ww3 v), .int .u64 (ww2 v), .int .u64 (ww1 v), .int .u64 (ww0 v), .int .u64 (ww3 t), .int .u64 (ww2 t), .int .u64 (ww1 t), .int .u64 (ww0 t)], [.int .u64 (ww3 a), .int .u64 (ww2 a), .int .u64 (ww1 a), .int .u64 (ww0 a), .int .u64 (ww3 b), .int .u64 (ww2 b), .int .u64 (ww1 b), .int .u64 (ww0 b), .int .u64 (ww3 c), .int .u64 (ww2 c), .int .u64 (ww1 c), .int .u64 (ww0 c)]]) : (fun w' => w'.cell? ⟨w.heap.size, 0, none⟩ = some (.int .u64 (ww3 x)) ∧ w'.cell? ⟨w.heap.size, 1, none⟩ = some (.int .u64 (ww2 x)) ∧ w'.cell? ⟨w.heap.size, 2, none⟩ = some (.int .u64 (ww1 x)) ∧ w'.cell? ⟨w.heap.size, 3, none⟩ = some (.int .u64 (ww0 x)) ∧ w'.cell? ⟨w.heap.size, 4, none⟩ = some (.int .u64 (ww3 y)) ∧ w'.cell? ⟨w.heap.size, 5, none⟩ = some (.int .u64 (ww2 y)) ∧ w'.cell? ⟨w.heap.size, 6, none⟩ = some (.int .u64 (ww1 y)) ∧ w'.cell? ⟨w.heap.size, 7, none⟩ = some (.int .u64 (ww0 y)) ∧ w'.cell? ⟨w.heap.size, 8, none⟩ = some (.int .u64 (ww3 z)) ∧ w'.cell? ⟨w.heap.size, 9, none⟩ = some (.int .u64 (ww2 z)) ∧ w'.cell? ⟨w.heap.size, 10, none⟩ = some (.int .u64 (ww1 z)) ∧ w'.cell? ⟨w.heap.size, 11, none⟩ = some (.int .u64 (ww0 z)) ∧ w'.cell? ⟨w.heap.size + 1, 0, none⟩ = some (.int .u64 (ww3 u)) ∧ w'.cell? ⟨w.heap.size + 1, 1, none⟩ = some (.int .u64 (ww2 u)) ∧ w'.cell? ⟨w.heap.size + 1, 2, none⟩ = some (.int .u64 (ww1 u)) ∧ w'.cell? ⟨w.heap.size + 1, 3, none⟩ = some (.int .u64 (ww0 u)) ∧ w'.cell? ⟨w.heap.size + 1, 4, none⟩ = some (.int .u64 (ww3 v)) ∧ w'.cell? ⟨w.heap.size + 1, 5, none⟩ = some (.int .u64 (ww2 v)) ∧ w'.cell? ⟨w.heap.size + 1, 6, none⟩ = some (.int .u64 (ww1 v)) ∧ w'.cell? ⟨w.heap.size + 1, 7, none⟩ = some (.int .u64 (ww0 v)) ∧ w'.cell? ⟨w.heap.size + 1, 8, none⟩ = some (.int .u64 (ww3 t)) ∧ w'.cell? ⟨w.heap.size + 1, 9, none⟩ = some (.int .u64 (ww2 t)) ∧ w'.cell? ⟨w.heap.size + 1, 10, none⟩ = some (.int .u64 (ww1 t)) ∧ w'.cell? ⟨w.heap.size + 1, 11, none⟩ = some (.int .u64 (ww0 t)) ∧ w'.cell? ⟨w.heap.size + 2, 0, none⟩ = some (.int .u64 (ww3 a)) ∧ w'.cell? ⟨w.heap.size + 2, 1, none⟩ = some (.int .u64 (ww2 a)) ∧ w'.cell? ⟨w.heap.size + 2, 2, none⟩ = some (.int .u64 (ww1 a)) ∧ w'.cell? ⟨w.heap.size + 2, 3, none⟩ = some (.int .u64 (ww0 a)) ∧ w'.cell? ⟨w.heap.size + 2, 4, none⟩ = some (.int .u64 (ww3 b)) ∧ w'.cell? ⟨w.heap.size + 2, 5, none⟩ = some (.int .u64 (ww2 b)) ∧ w'.cell? ⟨w.heap.size + 2, 6, none⟩ = some (.int .u64 (ww1 b)) ∧ w'.cell? ⟨w.heap.size + 2, 7, none⟩ = some (.int .u64 (ww0 b)) ∧ w'.cell? ⟨w.heap.size + 2, 8, none⟩ = some (.int .u64 (ww3 c)) ∧ w'.cell? ⟨w.heap.size + 2, 9, none⟩ = some (.int .u64 (ww2 c)) ∧ w'.cell? ⟨w.heap.size + 2, 10, none⟩ = some (.int .u64 (ww1 c)) ∧ w'.cell? ⟨w.heap.size + 2, 11, none⟩ = some (.int .u64 (ww0 c))) W := ⟨(T0.b 0 rfl).c 0 rfl, (T0.b 0 rfl).c 1 rfl, (T0.b 0 rfl).c 2 rfl, (T0.b 0 rfl).c 3 rfl, (T0.b 0 rfl).c 4 rfl, (T0.b 0 rfl).c 5 rfl, (T0.b 0 rfl).c 6 rfl, (T0.b 0 rfl).c 7 rfl, (T0.b 0 rfl).c 8 rfl, (T0.b 0 rfl).c 9 rfl, (T0.b 0 rfl).c 10 rfl, (T0.b 0 rfl).c 11 rfl, (T0.b 1 rfl).c 0 rfl, (T0.b 1 rfl).c 1 rfl, (T0.b 1 rfl).c 2 rfl, (T0.b 1 rfl).c 3 rfl, (T0.b 1 rfl).c 4 rfl, (T0.b 1 rfl).c 5 rfl, (T0.b 1 rfl).c 6 rfl, (T0.b 1 rfl).c 7 rfl, (T0.b 1 rfl).c 8 rfl, (T0.b 1 rfl).c 9 rfl, (T0.b 1 rfl).c 10 rfl, (T0.b 1 rfl).c 11 rfl, (T0.b 2 rfl).c 0 rfl, (T0.b 2 rfl).c 1 rfl, (T0.b 2 rfl).c 2 rfl, (T0.b 2 rfl).c 3 rfl, (T0.b 2 rfl).c 4 rfl, (T0.b 2 rfl).c 5 rfl, (T0.b 2 rfl).c 6 rfl, (T0.b 2 rfl).c 7 rfl, (T0.b 2 rfl).c 8 rfl, (T0.b 2 rfl).c 9 rfl, (T0.b 2 rfl).c 10 rfl, (T0.b 2 rfl).c 11 rfl⟩
theorem times_sm {r m : Int} (hr : small r = true) (hm : m.natAbs ≤ 2923003274661805836407369665432566039311865085952) (w : World) : Calls Tryz.prog 121 #[W4 r, W4 m] w (VP (LV (r * m)) w) := times_det r m (told_small hr) (told_of (by omega)) w
theorem triple_abs {r m : Int} (hr : small r = true) (hm : m.natAbs ≤ 2923003274661805836407369665432566039311865085952) : (r * m).natAbs ≤ 3533694129556768659166595001485837031654967793751237916243212402585239552 := by
  have := abs_mul (show r.natAbs ≤ 1208925819614629174706176 by have := sm_lt hr; omega) hm
  omega
/-- The turn of three points, as the program reckons it. -/
def turnJ (x y z u v t a b c : Int) : Int := cmpI (a * (y * t - z * v) - b * (x * t - z * u) + c * (x * v - y * u)) 0
theorem cutK_new {w X : World} {vss : List (List Value)} {rs : List Value} {T : TypeId} {B : Nat} (h : ArgsB w X vss) (hl : B ≤ X.heap.size) : ∃ g, (Value.pointer (some ⟨X.heap.size, 0, none⟩)) = .pointer (some ⟨g, 0, none⟩) ∧ B ≤ g ∧ ArgsB w (X.alloc (.cells rs.toArray T)) vss ∧ Blk (X.alloc (.cells rs.toArray T)) g rs :=
  ⟨_, rfl, hl, h.alloc _, Blk.new X rs T rfl⟩
theorem cutK_set {w X : World} {vss : List (List Value)} {v0 v1 v2 v3 v4 v5 v6 v7 z0 z1 z2 z3 z4 z5 z6 z7 : Value} {g B : Nat} (h : ArgsB w X vss) (G : Blk X g [z0, z1, z2, z3, z4, z5, z6, z7]) (hl : B ≤ g) (hg : w.heap.size + vss.length ≤ g) : ∃ g', (Value.pointer (some ⟨g, 0, none⟩)) = .pointer (some ⟨g', 0, none⟩) ∧ B ≤ g' ∧ ArgsB w ((((((((X.setCell ⟨g, 0, none⟩ v0).setCell ⟨g, 1, none⟩ v1).setCell ⟨g, 2, none⟩ v2).setCell ⟨g, 3, none⟩ v3).setCell ⟨g, 4, none⟩ v4).setCell ⟨g, 5, none⟩ v5).setCell ⟨g, 6, none⟩ v6).setCell ⟨g, 7, none⟩ v7) vss ∧ Blk ((((((((X.setCell ⟨g, 0, none⟩ v0).setCell ⟨g, 1, none⟩ v1).setCell ⟨g, 2, none⟩ v2).setCell ⟨g, 3, none⟩ v3).setCell ⟨g, 4, none⟩ v4).setCell ⟨g, 5, none⟩ v5).setCell ⟨g, 6, none⟩ v6).setCell ⟨g, 7, none⟩ v7) g' [v0, v1, v2, v3, v4, v5, v6, v7] :=
  ⟨g, rfl, hl, h.set8g hg _ _ _ _ _ _ _ _, (((((((G.setI 0 (by simp) v0).setI 1 (by simp) v1).setI 2 (by simp) v2).setI 3 (by simp) v3).setI 4 (by simp) v4).setI 5 (by simp) v5).setI 6 (by simp) v6).setI 7 (by simp) v7⟩
theorem tl_cells8 {X Y Z : Int} {W : World} {gX gY gZ g : Nat} {v0 v1 v2 v3 v4 v5 v6 v7 : Value} (BX : Blk W gX [.int .u64 (lw0 X), .int .u64 (lw1 X), .int .u64 (lw2 X), .int .u64 (lw3 X), .int .u64 (lw4 X), .int .u64 (lw5 X), .int .u64 (lw6 X), .int .u64 (lw7 X)]) (BY : Blk W gY [.int .u64 (lw0 Y), .int .u64 (lw1 Y), .int .u64 (lw2 Y), .int .u64 (lw3 Y), .int .u64 (lw4 Y), .int .u64 (lw5 Y), .int .u64 (lw6 Y), .int .u64 (lw7 Y)]) (BZ : Blk W gZ [.int .u64 (lw0 Z), .int .u64 (lw1 Z), .int .u64 (lw2 Z), .int .u64 (lw3 Z), .int .u64 (lw4 Z), .int .u64 (lw5 Z), .int .u64 (lw6 Z), .int .u64 (lw7 Z)]) (hX : gX ≠ g) (hY : gY ≠ g) (hZ : gZ ≠ g) : (fun w' => w'.cell? ⟨gX, 0, none⟩ = some (.int .u64 (lw0 X)) ∧ w'.cell? ⟨gX, 1, none⟩ = some (.int .u64 (lw1 X)) ∧ w'.cell? ⟨gX, 2, none⟩ = some (.int .u64 (lw2 X)) ∧ w'.cell? ⟨gX, 3, none⟩ = some (.int .u64 (lw3 X)) ∧ w'.cell? ⟨gX, 4, none⟩ = some (.int .u64 (lw4 X)) ∧ w'.cell? ⟨gX, 5, none⟩ = some (.int .u64 (lw5 X)) ∧ w'.cell? ⟨gX, 6, none⟩ = some (.int .u64 (lw6 X)) ∧ w'.cell? ⟨gX, 7, none⟩ = some (.int .u64 (lw7 X)) ∧ w'.cell? ⟨gY, 0, none⟩ = some (.int .u64 (lw0 Y)) ∧ w'.cell? ⟨gY, 1, none⟩ = some (.int .u64 (lw1 Y)) ∧ w'.cell? ⟨gY, 2, none⟩ = some (.int .u64 (lw2 Y)) ∧ w'.cell? ⟨gY, 3, none⟩ = some (.int .u64 (lw3 Y)) ∧ w'.cell? ⟨gY, 4, none⟩ = some (.int .u64 (lw4 Y)) ∧ w'.cell? ⟨gY, 5, none⟩ = some (.int .u64 (lw5 Y)) ∧ w'.cell? ⟨gY, 6, none⟩ = some (.int .u64 (lw6 Y)) ∧ w'.cell? ⟨gY, 7, none⟩ = some (.int .u64 (lw7 Y)) ∧ w'.cell? ⟨gZ, 0, none⟩ = some (.int .u64 (lw0 Z)) ∧ w'.cell? ⟨gZ, 1, none⟩ = some (.int .u64 (lw1 Z)) ∧ w'.cell? ⟨gZ, 2, none⟩ = some (.int .u64 (lw2 Z)) ∧ w'.cell? ⟨gZ, 3, none⟩ = some (.int .u64 (lw3 Z)) ∧ w'.cell? ⟨gZ, 4, none⟩ = some (.int .u64 (lw4 Z)) ∧ w'.cell? ⟨gZ, 5, none⟩ = some (.int .u64 (lw5 Z)) ∧ w'.cell? ⟨gZ, 6, none⟩ = some (.int .u64 (lw6 Z)) ∧ w'.cell? ⟨gZ, 7, none⟩ = some (.int .u64 (lw7 Z))) ((((((((W.setCell ⟨g, 0, none⟩ v0).setCell ⟨g, 1, none⟩ v1).setCell ⟨g, 2, none⟩ v2).setCell ⟨g, 3, none⟩ v3).setCell ⟨g, 4, none⟩ v4).setCell ⟨g, 5, none⟩ v5).setCell ⟨g, 6, none⟩ v6).setCell ⟨g, 7, none⟩ v7) := ⟨(BX.set8 hX).c 0 rfl, (BX.set8 hX).c 1 rfl, (BX.set8 hX).c 2 rfl, (BX.set8 hX).c 3 rfl, (BX.set8 hX).c 4 rfl, (BX.set8 hX).c 5 rfl, (BX.set8 hX).c 6 rfl, (BX.set8 hX).c 7 rfl, (BY.set8 hY).c 0 rfl, (BY.set8 hY).c 1 rfl, (BY.set8 hY).c 2 rfl, (BY.set8 hY).c 3 rfl, (BY.set8 hY).c 4 rfl, (BY.set8 hY).c 5 rfl, (BY.set8 hY).c 6 rfl, (BY.set8 hY).c 7 rfl, (BZ.set8 hZ).c 0 rfl, (BZ.set8 hZ).c 1 rfl, (BZ.set8 hZ).c 2 rfl, (BZ.set8 hZ).c 3 rfl, (BZ.set8 hZ).c 4 rfl, (BZ.set8 hZ).c 5 rfl, (BZ.set8 hZ).c 6 rfl, (BZ.set8 hZ).c 7 rfl⟩
theorem tl_cells {X Y Z : Int} {W : World} {gX gY gZ : Nat} (BX : Blk W gX [.int .u64 (lw0 X), .int .u64 (lw1 X), .int .u64 (lw2 X), .int .u64 (lw3 X), .int .u64 (lw4 X), .int .u64 (lw5 X), .int .u64 (lw6 X), .int .u64 (lw7 X)]) (BY : Blk W gY [.int .u64 (lw0 Y), .int .u64 (lw1 Y), .int .u64 (lw2 Y), .int .u64 (lw3 Y), .int .u64 (lw4 Y), .int .u64 (lw5 Y), .int .u64 (lw6 Y), .int .u64 (lw7 Y)]) (BZ : Blk W gZ [.int .u64 (lw0 Z), .int .u64 (lw1 Z), .int .u64 (lw2 Z), .int .u64 (lw3 Z), .int .u64 (lw4 Z), .int .u64 (lw5 Z), .int .u64 (lw6 Z), .int .u64 (lw7 Z)]) : (fun w' => w'.cell? ⟨gX, 0, none⟩ = some (.int .u64 (lw0 X)) ∧ w'.cell? ⟨gX, 1, none⟩ = some (.int .u64 (lw1 X)) ∧ w'.cell? ⟨gX, 2, none⟩ = some (.int .u64 (lw2 X)) ∧ w'.cell? ⟨gX, 3, none⟩ = some (.int .u64 (lw3 X)) ∧ w'.cell? ⟨gX, 4, none⟩ = some (.int .u64 (lw4 X)) ∧ w'.cell? ⟨gX, 5, none⟩ = some (.int .u64 (lw5 X)) ∧ w'.cell? ⟨gX, 6, none⟩ = some (.int .u64 (lw6 X)) ∧ w'.cell? ⟨gX, 7, none⟩ = some (.int .u64 (lw7 X)) ∧ w'.cell? ⟨gY, 0, none⟩ = some (.int .u64 (lw0 Y)) ∧ w'.cell? ⟨gY, 1, none⟩ = some (.int .u64 (lw1 Y)) ∧ w'.cell? ⟨gY, 2, none⟩ = some (.int .u64 (lw2 Y)) ∧ w'.cell? ⟨gY, 3, none⟩ = some (.int .u64 (lw3 Y)) ∧ w'.cell? ⟨gY, 4, none⟩ = some (.int .u64 (lw4 Y)) ∧ w'.cell? ⟨gY, 5, none⟩ = some (.int .u64 (lw5 Y)) ∧ w'.cell? ⟨gY, 6, none⟩ = some (.int .u64 (lw6 Y)) ∧ w'.cell? ⟨gY, 7, none⟩ = some (.int .u64 (lw7 Y)) ∧ w'.cell? ⟨gZ, 0, none⟩ = some (.int .u64 (lw0 Z)) ∧ w'.cell? ⟨gZ, 1, none⟩ = some (.int .u64 (lw1 Z)) ∧ w'.cell? ⟨gZ, 2, none⟩ = some (.int .u64 (lw2 Z)) ∧ w'.cell? ⟨gZ, 3, none⟩ = some (.int .u64 (lw3 Z)) ∧ w'.cell? ⟨gZ, 4, none⟩ = some (.int .u64 (lw4 Z)) ∧ w'.cell? ⟨gZ, 5, none⟩ = some (.int .u64 (lw5 Z)) ∧ w'.cell? ⟨gZ, 6, none⟩ = some (.int .u64 (lw6 Z)) ∧ w'.cell? ⟨gZ, 7, none⟩ = some (.int .u64 (lw7 Z))) W := ⟨BX.c 0 rfl, BX.c 1 rfl, BX.c 2 rfl, BX.c 3 rfl, BX.c 4 rfl, BX.c 5 rfl, BX.c 6 rfl, BX.c 7 rfl, BY.c 0 rfl, BY.c 1 rfl, BY.c 2 rfl, BY.c 3 rfl, BY.c 4 rfl, BY.c 5 rfl, BY.c 6 rfl, BY.c 7 rfl, BZ.c 0 rfl, BZ.c 1 rfl, BZ.c 2 rfl, BZ.c 3 rfl, BZ.c 4 rfl, BZ.c 5 rfl, BZ.c 6 rfl, BZ.c 7 rfl⟩
/-- The determinant of three points, as the program reckons it. -/
def detJ (x y z u v t a b c : Int) : Int := a * (y * t - z * v) - b * (x * t - z * u) + c * (x * v - y * u)
set_option maxRecDepth 100000 in
set_option maxHeartbeats 8000000 in
theorem corners_det (x y z u v t a b c : Int) (sx : small x = true) (sy : small y = true) (sz : small z = true) (su : small u = true) (sv : small v = true) (st : small t = true) (sa : small a = true) (sb : small b = true) (sc : small c = true) (w : World) : Calls Tryz.prog 98 #[PV x y z, PV u v t, PV a b c] w (VP (LV (detJ x y z u v t a b c)) w) := by
  have T0 : ArgsB w ((((w.alloc (.cells #[.int .u64 (ww3 x), .int .u64 (ww2 x), .int .u64 (ww1 x), .int .u64 (ww0 x), .int .u64 (ww3 y), .int .u64 (ww2 y), .int .u64 (ww1 y), .int .u64 (ww0 y), .int .u64 (ww3 z), .int .u64 (ww2 z), .int .u64 (ww1 z), .int .u64 (ww0 z)] 35)).alloc (.cells #[.int .u64 (ww3 u), .int .u64 (ww2 u), .int .u64 (ww1 u), .int .u64 (ww0 u), .int .u64 (ww3 v), .int .u64 (ww2 v), .int .u64 (ww1 v), .int .u64 (ww0 v), .int .u64 (ww3 t), .int .u64 (ww2 t), .int .u64 (ww1 t), .int .u64 (ww0 t)] 35)).alloc (.cells #[.int .u64 (ww3 a), .int .u64 (ww2 a), .int .u64 (ww1 a), .int .u64 (ww0 a), .int .u64 (ww3 b), .int .u64 (ww2 b), .int .u64 (ww1 b), .int .u64 (ww0 b), .int .u64 (ww3 c), .int .u64 (ww2 c), .int .u64 (ww1 c), .int .u64 (ww0 c)] 35)).alloc (.cells #[.int .u64 0, .int .u64 0, .int .u64 0, .int .u64 0, .int .u64 0, .int .u64 0, .int .u64 0, .int .u64 0] 104)) [[.int .u64 (ww3 x), .int .u64 (ww2 x), .int .u64 (ww1 x), .int .u64 (ww0 x), .int .u64 (ww3 y), .int .u64 (ww2 y), .int .u64 (ww1 y), .int .u64 (ww0 y), .int .u64 (ww3 z), .int .u64 (ww2 z), .int .u64 (ww1 z), .int .u64 (ww0 z)], [.int .u64 (ww3 u), .int .u64 (ww2 u), .int .u64 (ww1 u), .int .u64 (ww0 u), .int .u64 (ww3 v), .int .u64 (ww2 v), .int .u64 (ww1 v), .int .u64 (ww0 v), .int .u64 (ww3 t), .int .u64 (ww2 t), .int .u64 (ww1 t), .int .u64 (ww0 t)], [.int .u64 (ww3 a), .int .u64 (ww2 a), .int .u64 (ww1 a), .int .u64 (ww0 a), .int .u64 (ww3 b), .int .u64 (ww2 b), .int .u64 (ww1 b), .int .u64 (ww0 b), .int .u64 (ww3 c), .int .u64 (ww2 c), .int .u64 (ww1 c), .int .u64 (ww0 c)], [.int .u64 0, .int .u64 0, .int .u64 0, .int .u64 0, .int .u64 0, .int .u64 0, .int .u64 0, .int .u64 0]] := ar4 _ _ _ _ _ _ _ _ w
  have m0 := minor_abs sy sz sv st
  have C0 := minor_sm y z v t sy sz sv st
  have D0 := times_sm sa m0
  have e0 := triple_abs sa m0
  have m1 := minor_abs sx sz su st
  have C1 := minor_sm x z u t sx sz su st
  have D1 := times_sm sb m1
  have e1 := triple_abs sb m1
  have m2 := minor_abs sx sy su sv
  have C2 := minor_sm x y u v sx sy su sv
  have D2 := times_sm sc m2
  have e2 := triple_abs sc m2
  have HO : Hid (detJ x y z u v t a b c = a * (y * t - z * v) - b * (x * t - z * u) + c * (x * v - y * u)) := rfl
  clear sx sy sz su sv st sa sb sc m0 m1 m2
  generalize hv0 : a * (y * t - z * v) = X at *
  generalize hv1 : b * (x * t - z * u) = Y at *
  generalize hv2 : c * (x * v - y * u) = Z at *
  generalize hw0 : y * t - z * v = M0 at *
  generalize hw1 : x * t - z * u = M1 at *
  generalize hw2 : x * v - y * u = M2 at *
  clear hv0 hv1 hv2 hw0 hw1 hw2
  have E1 := minus_det X Y (lr_abs (by omega)) (lr_abs (by omega)) (lr_abs (by omega))
  have E2 := plus_det (X - Y) Z (lr_abs (by omega)) (lr_abs (by omega)) (lr_abs (by omega))
  clear e0 e1 e2
  go_enter Tryz.func98, Tryz.ntmps98
  go_upto_region 1 with fail
  generalize ((((w.alloc (.cells #[.int .u64 (ww3 x), .int .u64 (ww2 x), .int .u64 (ww1 x), .int .u64 (ww0 x), .int .u64 (ww3 y), .int .u64 (ww2 y), .int .u64 (ww1 y), .int .u64 (ww0 y), .int .u64 (ww3 z), .int .u64 (ww2 z), .int .u64 (ww1 z), .int .u64 (ww0 z)] 35)).alloc (.cells #[.int .u64 (ww3 u), .int .u64 (ww2 u), .int .u64 (ww1 u), .int .u64 (ww0 u), .int .u64 (ww3 v), .int .u64 (ww2 v), .int .u64 (ww1 v), .int .u64 (ww0 v), .int .u64 (ww3 t), .int .u64 (ww2 t), .int .u64 (ww1 t), .int .u64 (ww0 t)] 35)).alloc (.cells #[.int .u64 (ww3 a), .int .u64 (ww2 a), .int .u64 (ww1 a), .int .u64 (ww0 a), .int .u64 (ww3 b), .int .u64 (ww2 b), .int .u64 (ww1 b), .int .u64 (ww0 b), .int .u64 (ww3 c), .int .u64 (ww2 c), .int .u64 (ww1 c), .int .u64 (ww0 c)] 35)).alloc (.cells #[.int .u64 0, .int .u64 0, .int .u64 0, .int .u64 0, .int .u64 0, .int .u64 0, .int .u64 0, .int .u64 0] 104)) = W at *
  have h0 := (T0.b 3 rfl).lt
  go_cut [7] (fun p wx => (∃ g, p = .pointer (some ⟨g, 0, none⟩) ∧ w.heap.size + 4 ≤ g ∧ ArgsB w wx [[.int .u64 (ww3 x), .int .u64 (ww2 x), .int .u64 (ww1 x), .int .u64 (ww0 x), .int .u64 (ww3 y), .int .u64 (ww2 y), .int .u64 (ww1 y), .int .u64 (ww0 y), .int .u64 (ww3 z), .int .u64 (ww2 z), .int .u64 (ww1 z), .int .u64 (ww0 z)], [.int .u64 (ww3 u), .int .u64 (ww2 u), .int .u64 (ww1 u), .int .u64 (ww0 u), .int .u64 (ww3 v), .int .u64 (ww2 v), .int .u64 (ww1 v), .int .u64 (ww0 v), .int .u64 (ww3 t), .int .u64 (ww2 t), .int .u64 (ww1 t), .int .u64 (ww0 t)], [.int .u64 (ww3 a), .int .u64 (ww2 a), .int .u64 (ww1 a), .int .u64 (ww0 a), .int .u64 (ww3 b), .int .u64 (ww2 b), .int .u64 (ww1 b), .int .u64 (ww0 b), .int .u64 (ww3 c), .int .u64 (ww2 c), .int .u64 (ww1 c), .int .u64 (ww0 c)], [.int .u64 0, .int .u64 0, .int .u64 0, .int .u64 0, .int .u64 0, .int .u64 0, .int .u64 0, .int .u64 0]] ∧ Blk wx g [.int .u64 (lw0 X), .int .u64 (lw1 X), .int .u64 (lw2 X), .int .u64 (lw3 X), .int .u64 (lw4 X), .int .u64 (lw5 X), .int .u64 (lw6 X), .int .u64 (lw7 X)]))
  case first =>
    go_region_held3 (fun w' => w'.cell? ⟨w.heap.size, 0, none⟩ = some (.int .u64 (ww3 x)) ∧ w'.cell? ⟨w.heap.size, 1, none⟩ = some (.int .u64 (ww2 x)) ∧ w'.cell? ⟨w.heap.size, 2, none⟩ = some (.int .u64 (ww1 x)) ∧ w'.cell? ⟨w.heap.size, 3, none⟩ = some (.int .u64 (ww0 x)) ∧ w'.cell? ⟨w.heap.size, 4, none⟩ = some (.int .u64 (ww3 y)) ∧ w'.cell? ⟨w.heap.size, 5, none⟩ = some (.int .u64 (ww2 y)) ∧ w'.cell? ⟨w.heap.size, 6, none⟩ = some (.int .u64 (ww1 y)) ∧ w'.cell? ⟨w.heap.size, 7, none⟩ = some (.int .u64 (ww0 y)) ∧ w'.cell? ⟨w.heap.size, 8, none⟩ = some (.int .u64 (ww3 z)) ∧ w'.cell? ⟨w.heap.size, 9, none⟩ = some (.int .u64 (ww2 z)) ∧ w'.cell? ⟨w.heap.size, 10, none⟩ = some (.int .u64 (ww1 z)) ∧ w'.cell? ⟨w.heap.size, 11, none⟩ = some (.int .u64 (ww0 z)) ∧ w'.cell? ⟨w.heap.size + 1, 0, none⟩ = some (.int .u64 (ww3 u)) ∧ w'.cell? ⟨w.heap.size + 1, 1, none⟩ = some (.int .u64 (ww2 u)) ∧ w'.cell? ⟨w.heap.size + 1, 2, none⟩ = some (.int .u64 (ww1 u)) ∧ w'.cell? ⟨w.heap.size + 1, 3, none⟩ = some (.int .u64 (ww0 u)) ∧ w'.cell? ⟨w.heap.size + 1, 4, none⟩ = some (.int .u64 (ww3 v)) ∧ w'.cell? ⟨w.heap.size + 1, 5, none⟩ = some (.int .u64 (ww2 v)) ∧ w'.cell? ⟨w.heap.size + 1, 6, none⟩ = some (.int .u64 (ww1 v)) ∧ w'.cell? ⟨w.heap.size + 1, 7, none⟩ = some (.int .u64 (ww0 v)) ∧ w'.cell? ⟨w.heap.size + 1, 8, none⟩ = some (.int .u64 (ww3 t)) ∧ w'.cell? ⟨w.heap.size + 1, 9, none⟩ = some (.int .u64 (ww2 t)) ∧ w'.cell? ⟨w.heap.size + 1, 10, none⟩ = some (.int .u64 (ww1 t)) ∧ w'.cell? ⟨w.heap.size + 1, 11, none⟩ = some (.int .u64 (ww0 t)) ∧ w'.cell? ⟨w.heap.size + 2, 0, none⟩ = some (.int .u64 (ww3 a)) ∧ w'.cell? ⟨w.heap.size + 2, 1, none⟩ = some (.int .u64 (ww2 a)) ∧ w'.cell? ⟨w.heap.size + 2, 2, none⟩ = some (.int .u64 (ww1 a)) ∧ w'.cell? ⟨w.heap.size + 2, 3, none⟩ = some (.int .u64 (ww0 a)) ∧ w'.cell? ⟨w.heap.size + 2, 4, none⟩ = some (.int .u64 (ww3 b)) ∧ w'.cell? ⟨w.heap.size + 2, 5, none⟩ = some (.int .u64 (ww2 b)) ∧ w'.cell? ⟨w.heap.size + 2, 6, none⟩ = some (.int .u64 (ww1 b)) ∧ w'.cell? ⟨w.heap.size + 2, 7, none⟩ = some (.int .u64 (ww0 b)) ∧ w'.cell? ⟨w.heap.size + 2, 8, none⟩ = some (.int .u64 (ww3 c)) ∧ w'.cell? ⟨w.heap.size + 2, 9, none⟩ = some (.int .u64 (ww2 c)) ∧ w'.cell? ⟨w.heap.size + 2, 10, none⟩ = some (.int .u64 (ww1 c)) ∧ w'.cell? ⟨w.heap.size + 2, 11, none⟩ = some (.int .u64 (ww0 c))) ((refine t3_cells ?_ <;> repeat (first | (with_reducible exact T0) | (with_reducible refine ArgsB.drew ?_) | (with_reducible refine ArgsB.alloc ?_ _) | (with_reducible refine ArgsB.set8g ?_ (by simp; omega) _ _ _ _ _ _ _ _))))
      (first
        | (go_at_call 97; refine (C0 _).mono ?_; rintro e v01 ⟨rfl, hB⟩; (first | (have T1 : ArgsB w v01 _ := (by with_reducible exact T0.step hB); have tltv01 := (T0.b 3 rfl).lt; (try (replace G0 := G0.step hB; obtain ⟨j0c, j0f, j1c, j1f, j2c, j2f, j3c, j3f, j4c, j4f, j5c, j5f, j6c, j6f, j7c, j7f⟩ := G0.cf8; have jlt := G0.lt))) | (have T1 : ArgsB w v01 _ := (by with_reducible exact T0.drew.step hB); have tltv01 := (T0.b 3 rfl).lt; (try (replace G0 := G0.drew.step hB; obtain ⟨j0c, j0f, j1c, j1f, j2c, j2f, j3c, j3f, j4c, j4f, j5c, j5f, j6c, j6f, j7c, j7f⟩ := G0.cf8; have jlt := G0.lt))) | (have T1 : ArgsB w v01 _ := (by with_reducible exact (T0.alloc _).step hB); have tltv01 := (T0.b 3 rfl).lt; (have G0 := (Blk.new _ [.int .u64 0, .int .u64 0, .int .u64 0, .int .u64 0, .int .u64 0, .int .u64 0, .int .u64 0, .int .u64 0] _ rfl).step hB; obtain ⟨j0c, j0f, j1c, j1f, j2c, j2f, j3c, j3f, j4c, j4f, j5c, j5f, j6c, j6f, j7c, j7f⟩ := G0.cf8; have jlt := G0.lt)) | (have T1 : ArgsB w v01 _ := (by with_reducible exact (T0.alloc _).drew.step hB); have tltv01 := (T0.b 3 rfl).lt; (have G0 := (Blk.new _ [.int .u64 0, .int .u64 0, .int .u64 0, .int .u64 0, .int .u64 0, .int .u64 0, .int .u64 0, .int .u64 0] _ rfl).drew.step hB; obtain ⟨j0c, j0f, j1c, j1f, j2c, j2f, j3c, j3f, j4c, j4f, j5c, j5f, j6c, j6f, j7c, j7f⟩ := G0.cf8; have jlt := G0.lt))); clear T0; have T0 := T1; clear T1; clear hB)
        | (go_at_call 121; refine (D0 _).mono ?_; rintro e v02 ⟨rfl, hB⟩; (first | (have T1 : ArgsB w v02 _ := (by with_reducible exact T0.step hB); have tltv02 := (T0.b 3 rfl).lt; (try (replace G0 := G0.step hB; obtain ⟨j0c, j0f, j1c, j1f, j2c, j2f, j3c, j3f, j4c, j4f, j5c, j5f, j6c, j6f, j7c, j7f⟩ := G0.cf8; have jlt := G0.lt))) | (have T1 : ArgsB w v02 _ := (by with_reducible exact T0.drew.step hB); have tltv02 := (T0.b 3 rfl).lt; (try (replace G0 := G0.drew.step hB; obtain ⟨j0c, j0f, j1c, j1f, j2c, j2f, j3c, j3f, j4c, j4f, j5c, j5f, j6c, j6f, j7c, j7f⟩ := G0.cf8; have jlt := G0.lt))) | (have T1 : ArgsB w v02 _ := (by with_reducible exact (T0.alloc _).step hB); have tltv02 := (T0.b 3 rfl).lt; (have G0 := (Blk.new _ [.int .u64 0, .int .u64 0, .int .u64 0, .int .u64 0, .int .u64 0, .int .u64 0, .int .u64 0, .int .u64 0] _ rfl).step hB; obtain ⟨j0c, j0f, j1c, j1f, j2c, j2f, j3c, j3f, j4c, j4f, j5c, j5f, j6c, j6f, j7c, j7f⟩ := G0.cf8; have jlt := G0.lt)) | (have T1 : ArgsB w v02 _ := (by with_reducible exact (T0.alloc _).drew.step hB); have tltv02 := (T0.b 3 rfl).lt; (have G0 := (Blk.new _ [.int .u64 0, .int .u64 0, .int .u64 0, .int .u64 0, .int .u64 0, .int .u64 0, .int .u64 0, .int .u64 0] _ rfl).drew.step hB; obtain ⟨j0c, j0f, j1c, j1f, j2c, j2f, j3c, j3f, j4c, j4f, j5c, j5f, j6c, j6f, j7c, j7f⟩ := G0.cf8; have jlt := G0.lt))); clear T0; have T0 := T1; clear T1; clear hB))
    all_goals go_wp2_with fail
    all_goals go_meet
    all_goals have hl := (T0.b 3 rfl).lt
    all_goals first | (with_reducible exact cutK_new T0 (by omega)) | (with_reducible exact cutK_set T0 G0 (by omega) (by simp; omega))
  case rest =>
    clear T0 h0 C0 D0 
    obtain ⟨gX, hp, hgX, T0, BX⟩ := hcut
    subst hp
    have h0 := (T0.b 3 rfl).lt
    go_upto_region 2 with fail
    go_cut [8] (fun p wx => (∃ g, p = .pointer (some ⟨g, 0, none⟩) ∧ gX + 1 ≤ g ∧ ArgsB w wx [[.int .u64 (ww3 x), .int .u64 (ww2 x), .int .u64 (ww1 x), .int .u64 (ww0 x), .int .u64 (ww3 y), .int .u64 (ww2 y), .int .u64 (ww1 y), .int .u64 (ww0 y), .int .u64 (ww3 z), .int .u64 (ww2 z), .int .u64 (ww1 z), .int .u64 (ww0 z)], [.int .u64 (ww3 u), .int .u64 (ww2 u), .int .u64 (ww1 u), .int .u64 (ww0 u), .int .u64 (ww3 v), .int .u64 (ww2 v), .int .u64 (ww1 v), .int .u64 (ww0 v), .int .u64 (ww3 t), .int .u64 (ww2 t), .int .u64 (ww1 t), .int .u64 (ww0 t)], [.int .u64 (ww3 a), .int .u64 (ww2 a), .int .u64 (ww1 a), .int .u64 (ww0 a), .int .u64 (ww3 b), .int .u64 (ww2 b), .int .u64 (ww1 b), .int .u64 (ww0 b), .int .u64 (ww3 c), .int .u64 (ww2 c), .int .u64 (ww1 c), .int .u64 (ww0 c)], [.int .u64 0, .int .u64 0, .int .u64 0, .int .u64 0, .int .u64 0, .int .u64 0, .int .u64 0, .int .u64 0]] ∧ Blk wx g [.int .u64 (lw0 Y), .int .u64 (lw1 Y), .int .u64 (lw2 Y), .int .u64 (lw3 Y), .int .u64 (lw4 Y), .int .u64 (lw5 Y), .int .u64 (lw6 Y), .int .u64 (lw7 Y)]) ∧ Blk wx gX [.int .u64 (lw0 X), .int .u64 (lw1 X), .int .u64 (lw2 X), .int .u64 (lw3 X), .int .u64 (lw4 X), .int .u64 (lw5 X), .int .u64 (lw6 X), .int .u64 (lw7 X)])
    case first =>
      go_region_held3 (fun w' => w'.cell? ⟨w.heap.size, 0, none⟩ = some (.int .u64 (ww3 x)) ∧ w'.cell? ⟨w.heap.size, 1, none⟩ = some (.int .u64 (ww2 x)) ∧ w'.cell? ⟨w.heap.size, 2, none⟩ = some (.int .u64 (ww1 x)) ∧ w'.cell? ⟨w.heap.size, 3, none⟩ = some (.int .u64 (ww0 x)) ∧ w'.cell? ⟨w.heap.size, 4, none⟩ = some (.int .u64 (ww3 y)) ∧ w'.cell? ⟨w.heap.size, 5, none⟩ = some (.int .u64 (ww2 y)) ∧ w'.cell? ⟨w.heap.size, 6, none⟩ = some (.int .u64 (ww1 y)) ∧ w'.cell? ⟨w.heap.size, 7, none⟩ = some (.int .u64 (ww0 y)) ∧ w'.cell? ⟨w.heap.size, 8, none⟩ = some (.int .u64 (ww3 z)) ∧ w'.cell? ⟨w.heap.size, 9, none⟩ = some (.int .u64 (ww2 z)) ∧ w'.cell? ⟨w.heap.size, 10, none⟩ = some (.int .u64 (ww1 z)) ∧ w'.cell? ⟨w.heap.size, 11, none⟩ = some (.int .u64 (ww0 z)) ∧ w'.cell? ⟨w.heap.size + 1, 0, none⟩ = some (.int .u64 (ww3 u)) ∧ w'.cell? ⟨w.heap.size + 1, 1, none⟩ = some (.int .u64 (ww2 u)) ∧ w'.cell? ⟨w.heap.size + 1, 2, none⟩ = some (.int .u64 (ww1 u)) ∧ w'.cell? ⟨w.heap.size + 1, 3, none⟩ = some (.int .u64 (ww0 u)) ∧ w'.cell? ⟨w.heap.size + 1, 4, none⟩ = some (.int .u64 (ww3 v)) ∧ w'.cell? ⟨w.heap.size + 1, 5, none⟩ = some (.int .u64 (ww2 v)) ∧ w'.cell? ⟨w.heap.size + 1, 6, none⟩ = some (.int .u64 (ww1 v)) ∧ w'.cell? ⟨w.heap.size + 1, 7, none⟩ = some (.int .u64 (ww0 v)) ∧ w'.cell? ⟨w.heap.size + 1, 8, none⟩ = some (.int .u64 (ww3 t)) ∧ w'.cell? ⟨w.heap.size + 1, 9, none⟩ = some (.int .u64 (ww2 t)) ∧ w'.cell? ⟨w.heap.size + 1, 10, none⟩ = some (.int .u64 (ww1 t)) ∧ w'.cell? ⟨w.heap.size + 1, 11, none⟩ = some (.int .u64 (ww0 t)) ∧ w'.cell? ⟨w.heap.size + 2, 0, none⟩ = some (.int .u64 (ww3 a)) ∧ w'.cell? ⟨w.heap.size + 2, 1, none⟩ = some (.int .u64 (ww2 a)) ∧ w'.cell? ⟨w.heap.size + 2, 2, none⟩ = some (.int .u64 (ww1 a)) ∧ w'.cell? ⟨w.heap.size + 2, 3, none⟩ = some (.int .u64 (ww0 a)) ∧ w'.cell? ⟨w.heap.size + 2, 4, none⟩ = some (.int .u64 (ww3 b)) ∧ w'.cell? ⟨w.heap.size + 2, 5, none⟩ = some (.int .u64 (ww2 b)) ∧ w'.cell? ⟨w.heap.size + 2, 6, none⟩ = some (.int .u64 (ww1 b)) ∧ w'.cell? ⟨w.heap.size + 2, 7, none⟩ = some (.int .u64 (ww0 b)) ∧ w'.cell? ⟨w.heap.size + 2, 8, none⟩ = some (.int .u64 (ww3 c)) ∧ w'.cell? ⟨w.heap.size + 2, 9, none⟩ = some (.int .u64 (ww2 c)) ∧ w'.cell? ⟨w.heap.size + 2, 10, none⟩ = some (.int .u64 (ww1 c)) ∧ w'.cell? ⟨w.heap.size + 2, 11, none⟩ = some (.int .u64 (ww0 c))) ((refine t3_cells ?_ <;> repeat (first | (with_reducible exact T0) | (with_reducible refine ArgsB.drew ?_) | (with_reducible refine ArgsB.alloc ?_ _) | (with_reducible refine ArgsB.set8g ?_ (by simp; omega) _ _ _ _ _ _ _ _))))
        (first
          | (go_at_call 97; refine (C1 _).mono ?_; rintro e v11 ⟨rfl, hB⟩; (first | (have T1 : ArgsB w v11 _ := (by with_reducible exact T0.step hB); have tltv11 := (T0.b 3 rfl).lt; have lBXv11 := BX.lt; replace BX := BX.step hB; (try (replace G0 := G0.step hB; obtain ⟨j0c, j0f, j1c, j1f, j2c, j2f, j3c, j3f, j4c, j4f, j5c, j5f, j6c, j6f, j7c, j7f⟩ := G0.cf8; have jlt := G0.lt))) | (have T1 : ArgsB w v11 _ := (by with_reducible exact T0.drew.step hB); have tltv11 := (T0.b 3 rfl).lt; have lBXv11 := BX.lt; replace BX := BX.drew.step hB; (try (replace G0 := G0.drew.step hB; obtain ⟨j0c, j0f, j1c, j1f, j2c, j2f, j3c, j3f, j4c, j4f, j5c, j5f, j6c, j6f, j7c, j7f⟩ := G0.cf8; have jlt := G0.lt))) | (have T1 : ArgsB w v11 _ := (by with_reducible exact (T0.alloc _).step hB); have tltv11 := (T0.b 3 rfl).lt; have lBXv11 := BX.lt; replace BX := (BX.alloc _).step hB; (have G0 := (Blk.new _ [.int .u64 0, .int .u64 0, .int .u64 0, .int .u64 0, .int .u64 0, .int .u64 0, .int .u64 0, .int .u64 0] _ rfl).step hB; obtain ⟨j0c, j0f, j1c, j1f, j2c, j2f, j3c, j3f, j4c, j4f, j5c, j5f, j6c, j6f, j7c, j7f⟩ := G0.cf8; have jlt := G0.lt)) | (have T1 : ArgsB w v11 _ := (by with_reducible exact (T0.alloc _).drew.step hB); have tltv11 := (T0.b 3 rfl).lt; have lBXv11 := BX.lt; replace BX := (BX.alloc _).drew.step hB; (have G0 := (Blk.new _ [.int .u64 0, .int .u64 0, .int .u64 0, .int .u64 0, .int .u64 0, .int .u64 0, .int .u64 0, .int .u64 0] _ rfl).drew.step hB; obtain ⟨j0c, j0f, j1c, j1f, j2c, j2f, j3c, j3f, j4c, j4f, j5c, j5f, j6c, j6f, j7c, j7f⟩ := G0.cf8; have jlt := G0.lt))); clear T0; have T0 := T1; clear T1; clear hB)
          | (go_at_call 121; refine (D1 _).mono ?_; rintro e v12 ⟨rfl, hB⟩; (first | (have T1 : ArgsB w v12 _ := (by with_reducible exact T0.step hB); have tltv12 := (T0.b 3 rfl).lt; have lBXv12 := BX.lt; replace BX := BX.step hB; (try (replace G0 := G0.step hB; obtain ⟨j0c, j0f, j1c, j1f, j2c, j2f, j3c, j3f, j4c, j4f, j5c, j5f, j6c, j6f, j7c, j7f⟩ := G0.cf8; have jlt := G0.lt))) | (have T1 : ArgsB w v12 _ := (by with_reducible exact T0.drew.step hB); have tltv12 := (T0.b 3 rfl).lt; have lBXv12 := BX.lt; replace BX := BX.drew.step hB; (try (replace G0 := G0.drew.step hB; obtain ⟨j0c, j0f, j1c, j1f, j2c, j2f, j3c, j3f, j4c, j4f, j5c, j5f, j6c, j6f, j7c, j7f⟩ := G0.cf8; have jlt := G0.lt))) | (have T1 : ArgsB w v12 _ := (by with_reducible exact (T0.alloc _).step hB); have tltv12 := (T0.b 3 rfl).lt; have lBXv12 := BX.lt; replace BX := (BX.alloc _).step hB; (have G0 := (Blk.new _ [.int .u64 0, .int .u64 0, .int .u64 0, .int .u64 0, .int .u64 0, .int .u64 0, .int .u64 0, .int .u64 0] _ rfl).step hB; obtain ⟨j0c, j0f, j1c, j1f, j2c, j2f, j3c, j3f, j4c, j4f, j5c, j5f, j6c, j6f, j7c, j7f⟩ := G0.cf8; have jlt := G0.lt)) | (have T1 : ArgsB w v12 _ := (by with_reducible exact (T0.alloc _).drew.step hB); have tltv12 := (T0.b 3 rfl).lt; have lBXv12 := BX.lt; replace BX := (BX.alloc _).drew.step hB; (have G0 := (Blk.new _ [.int .u64 0, .int .u64 0, .int .u64 0, .int .u64 0, .int .u64 0, .int .u64 0, .int .u64 0, .int .u64 0] _ rfl).drew.step hB; obtain ⟨j0c, j0f, j1c, j1f, j2c, j2f, j3c, j3f, j4c, j4f, j5c, j5f, j6c, j6f, j7c, j7f⟩ := G0.cf8; have jlt := G0.lt))); clear T0; have T0 := T1; clear T1; clear hB))
      all_goals go_wp2_with fail
      all_goals go_meet
      all_goals have hl := (T0.b 3 rfl).lt
      all_goals have hlX := BX.lt
      all_goals first | (with_reducible exact ⟨cutK_new T0 (by omega), BX.alloc _⟩) | (with_reducible exact ⟨cutK_set T0 G0 (by omega) (by simp; omega), BX.set8 (by omega)⟩)
    case rest =>
      clear T0 h0 C1 D1 BX
      obtain ⟨⟨gY, hp, hgY, T0, BY⟩, BX⟩ := hcut
      subst hp
      have h0 := (T0.b 3 rfl).lt
      go_upto_region 3 with fail
      go_cut [9] (fun p wx => (∃ g, p = .pointer (some ⟨g, 0, none⟩) ∧ gY + 1 ≤ g ∧ ArgsB w wx [[.int .u64 (ww3 x), .int .u64 (ww2 x), .int .u64 (ww1 x), .int .u64 (ww0 x), .int .u64 (ww3 y), .int .u64 (ww2 y), .int .u64 (ww1 y), .int .u64 (ww0 y), .int .u64 (ww3 z), .int .u64 (ww2 z), .int .u64 (ww1 z), .int .u64 (ww0 z)], [.int .u64 (ww3 u), .int .u64 (ww2 u), .int .u64 (ww1 u), .int .u64 (ww0 u), .int .u64 (ww3 v), .int .u64 (ww2 v), .int .u64 (ww1 v), .int .u64 (ww0 v), .int .u64 (ww3 t), .int .u64 (ww2 t), .int .u64 (ww1 t), .int .u64 (ww0 t)], [.int .u64 (ww3 a), .int .u64 (ww2 a), .int .u64 (ww1 a), .int .u64 (ww0 a), .int .u64 (ww3 b), .int .u64 (ww2 b), .int .u64 (ww1 b), .int .u64 (ww0 b), .int .u64 (ww3 c), .int .u64 (ww2 c), .int .u64 (ww1 c), .int .u64 (ww0 c)], [.int .u64 0, .int .u64 0, .int .u64 0, .int .u64 0, .int .u64 0, .int .u64 0, .int .u64 0, .int .u64 0]] ∧ Blk wx g [.int .u64 (lw0 Z), .int .u64 (lw1 Z), .int .u64 (lw2 Z), .int .u64 (lw3 Z), .int .u64 (lw4 Z), .int .u64 (lw5 Z), .int .u64 (lw6 Z), .int .u64 (lw7 Z)]) ∧ Blk wx gX [.int .u64 (lw0 X), .int .u64 (lw1 X), .int .u64 (lw2 X), .int .u64 (lw3 X), .int .u64 (lw4 X), .int .u64 (lw5 X), .int .u64 (lw6 X), .int .u64 (lw7 X)] ∧ Blk wx gY [.int .u64 (lw0 Y), .int .u64 (lw1 Y), .int .u64 (lw2 Y), .int .u64 (lw3 Y), .int .u64 (lw4 Y), .int .u64 (lw5 Y), .int .u64 (lw6 Y), .int .u64 (lw7 Y)])
      case first =>
        go_region_held3 (fun w' => w'.cell? ⟨w.heap.size, 0, none⟩ = some (.int .u64 (ww3 x)) ∧ w'.cell? ⟨w.heap.size, 1, none⟩ = some (.int .u64 (ww2 x)) ∧ w'.cell? ⟨w.heap.size, 2, none⟩ = some (.int .u64 (ww1 x)) ∧ w'.cell? ⟨w.heap.size, 3, none⟩ = some (.int .u64 (ww0 x)) ∧ w'.cell? ⟨w.heap.size, 4, none⟩ = some (.int .u64 (ww3 y)) ∧ w'.cell? ⟨w.heap.size, 5, none⟩ = some (.int .u64 (ww2 y)) ∧ w'.cell? ⟨w.heap.size, 6, none⟩ = some (.int .u64 (ww1 y)) ∧ w'.cell? ⟨w.heap.size, 7, none⟩ = some (.int .u64 (ww0 y)) ∧ w'.cell? ⟨w.heap.size, 8, none⟩ = some (.int .u64 (ww3 z)) ∧ w'.cell? ⟨w.heap.size, 9, none⟩ = some (.int .u64 (ww2 z)) ∧ w'.cell? ⟨w.heap.size, 10, none⟩ = some (.int .u64 (ww1 z)) ∧ w'.cell? ⟨w.heap.size, 11, none⟩ = some (.int .u64 (ww0 z)) ∧ w'.cell? ⟨w.heap.size + 1, 0, none⟩ = some (.int .u64 (ww3 u)) ∧ w'.cell? ⟨w.heap.size + 1, 1, none⟩ = some (.int .u64 (ww2 u)) ∧ w'.cell? ⟨w.heap.size + 1, 2, none⟩ = some (.int .u64 (ww1 u)) ∧ w'.cell? ⟨w.heap.size + 1, 3, none⟩ = some (.int .u64 (ww0 u)) ∧ w'.cell? ⟨w.heap.size + 1, 4, none⟩ = some (.int .u64 (ww3 v)) ∧ w'.cell? ⟨w.heap.size + 1, 5, none⟩ = some (.int .u64 (ww2 v)) ∧ w'.cell? ⟨w.heap.size + 1, 6, none⟩ = some (.int .u64 (ww1 v)) ∧ w'.cell? ⟨w.heap.size + 1, 7, none⟩ = some (.int .u64 (ww0 v)) ∧ w'.cell? ⟨w.heap.size + 1, 8, none⟩ = some (.int .u64 (ww3 t)) ∧ w'.cell? ⟨w.heap.size + 1, 9, none⟩ = some (.int .u64 (ww2 t)) ∧ w'.cell? ⟨w.heap.size + 1, 10, none⟩ = some (.int .u64 (ww1 t)) ∧ w'.cell? ⟨w.heap.size + 1, 11, none⟩ = some (.int .u64 (ww0 t)) ∧ w'.cell? ⟨w.heap.size + 2, 0, none⟩ = some (.int .u64 (ww3 a)) ∧ w'.cell? ⟨w.heap.size + 2, 1, none⟩ = some (.int .u64 (ww2 a)) ∧ w'.cell? ⟨w.heap.size + 2, 2, none⟩ = some (.int .u64 (ww1 a)) ∧ w'.cell? ⟨w.heap.size + 2, 3, none⟩ = some (.int .u64 (ww0 a)) ∧ w'.cell? ⟨w.heap.size + 2, 4, none⟩ = some (.int .u64 (ww3 b)) ∧ w'.cell? ⟨w.heap.size + 2, 5, none⟩ = some (.int .u64 (ww2 b)) ∧ w'.cell? ⟨w.heap.size + 2, 6, none⟩ = some (.int .u64 (ww1 b)) ∧ w'.cell? ⟨w.heap.size + 2, 7, none⟩ = some (.int .u64 (ww0 b)) ∧ w'.cell? ⟨w.heap.size + 2, 8, none⟩ = some (.int .u64 (ww3 c)) ∧ w'.cell? ⟨w.heap.size + 2, 9, none⟩ = some (.int .u64 (ww2 c)) ∧ w'.cell? ⟨w.heap.size + 2, 10, none⟩ = some (.int .u64 (ww1 c)) ∧ w'.cell? ⟨w.heap.size + 2, 11, none⟩ = some (.int .u64 (ww0 c))) ((refine t3_cells ?_ <;> repeat (first | (with_reducible exact T0) | (with_reducible refine ArgsB.drew ?_) | (with_reducible refine ArgsB.alloc ?_ _) | (with_reducible refine ArgsB.set8g ?_ (by simp; omega) _ _ _ _ _ _ _ _))))
          (first
            | (go_at_call 97; refine (C2 _).mono ?_; rintro e v21 ⟨rfl, hB⟩; (first | (have T1 : ArgsB w v21 _ := (by with_reducible exact T0.step hB); have tltv21 := (T0.b 3 rfl).lt; have lBXv21 := BX.lt; replace BX := BX.step hB; have lBYv21 := BY.lt; replace BY := BY.step hB; (try (replace G0 := G0.step hB; obtain ⟨j0c, j0f, j1c, j1f, j2c, j2f, j3c, j3f, j4c, j4f, j5c, j5f, j6c, j6f, j7c, j7f⟩ := G0.cf8; have jlt := G0.lt))) | (have T1 : ArgsB w v21 _ := (by with_reducible exact T0.drew.step hB); have tltv21 := (T0.b 3 rfl).lt; have lBXv21 := BX.lt; replace BX := BX.drew.step hB; have lBYv21 := BY.lt; replace BY := BY.drew.step hB; (try (replace G0 := G0.drew.step hB; obtain ⟨j0c, j0f, j1c, j1f, j2c, j2f, j3c, j3f, j4c, j4f, j5c, j5f, j6c, j6f, j7c, j7f⟩ := G0.cf8; have jlt := G0.lt))) | (have T1 : ArgsB w v21 _ := (by with_reducible exact (T0.alloc _).step hB); have tltv21 := (T0.b 3 rfl).lt; have lBXv21 := BX.lt; replace BX := (BX.alloc _).step hB; have lBYv21 := BY.lt; replace BY := (BY.alloc _).step hB; (have G0 := (Blk.new _ [.int .u64 0, .int .u64 0, .int .u64 0, .int .u64 0, .int .u64 0, .int .u64 0, .int .u64 0, .int .u64 0] _ rfl).step hB; obtain ⟨j0c, j0f, j1c, j1f, j2c, j2f, j3c, j3f, j4c, j4f, j5c, j5f, j6c, j6f, j7c, j7f⟩ := G0.cf8; have jlt := G0.lt)) | (have T1 : ArgsB w v21 _ := (by with_reducible exact (T0.alloc _).drew.step hB); have tltv21 := (T0.b 3 rfl).lt; have lBXv21 := BX.lt; replace BX := (BX.alloc _).drew.step hB; have lBYv21 := BY.lt; replace BY := (BY.alloc _).drew.step hB; (have G0 := (Blk.new _ [.int .u64 0, .int .u64 0, .int .u64 0, .int .u64 0, .int .u64 0, .int .u64 0, .int .u64 0, .int .u64 0] _ rfl).drew.step hB; obtain ⟨j0c, j0f, j1c, j1f, j2c, j2f, j3c, j3f, j4c, j4f, j5c, j5f, j6c, j6f, j7c, j7f⟩ := G0.cf8; have jlt := G0.lt))); clear T0; have T0 := T1; clear T1; clear hB)
            | (go_at_call 121; refine (D2 _).mono ?_; rintro e v22 ⟨rfl, hB⟩; (first | (have T1 : ArgsB w v22 _ := (by with_reducible exact T0.step hB); have tltv22 := (T0.b 3 rfl).lt; have lBXv22 := BX.lt; replace BX := BX.step hB; have lBYv22 := BY.lt; replace BY := BY.step hB; (try (replace G0 := G0.step hB; obtain ⟨j0c, j0f, j1c, j1f, j2c, j2f, j3c, j3f, j4c, j4f, j5c, j5f, j6c, j6f, j7c, j7f⟩ := G0.cf8; have jlt := G0.lt))) | (have T1 : ArgsB w v22 _ := (by with_reducible exact T0.drew.step hB); have tltv22 := (T0.b 3 rfl).lt; have lBXv22 := BX.lt; replace BX := BX.drew.step hB; have lBYv22 := BY.lt; replace BY := BY.drew.step hB; (try (replace G0 := G0.drew.step hB; obtain ⟨j0c, j0f, j1c, j1f, j2c, j2f, j3c, j3f, j4c, j4f, j5c, j5f, j6c, j6f, j7c, j7f⟩ := G0.cf8; have jlt := G0.lt))) | (have T1 : ArgsB w v22 _ := (by with_reducible exact (T0.alloc _).step hB); have tltv22 := (T0.b 3 rfl).lt; have lBXv22 := BX.lt; replace BX := (BX.alloc _).step hB; have lBYv22 := BY.lt; replace BY := (BY.alloc _).step hB; (have G0 := (Blk.new _ [.int .u64 0, .int .u64 0, .int .u64 0, .int .u64 0, .int .u64 0, .int .u64 0, .int .u64 0, .int .u64 0] _ rfl).step hB; obtain ⟨j0c, j0f, j1c, j1f, j2c, j2f, j3c, j3f, j4c, j4f, j5c, j5f, j6c, j6f, j7c, j7f⟩ := G0.cf8; have jlt := G0.lt)) | (have T1 : ArgsB w v22 _ := (by with_reducible exact (T0.alloc _).drew.step hB); have tltv22 := (T0.b 3 rfl).lt; have lBXv22 := BX.lt; replace BX := (BX.alloc _).drew.step hB; have lBYv22 := BY.lt; replace BY := (BY.alloc _).drew.step hB; (have G0 := (Blk.new _ [.int .u64 0, .int .u64 0, .int .u64 0, .int .u64 0, .int .u64 0, .int .u64 0, .int .u64 0, .int .u64 0] _ rfl).drew.step hB; obtain ⟨j0c, j0f, j1c, j1f, j2c, j2f, j3c, j3f, j4c, j4f, j5c, j5f, j6c, j6f, j7c, j7f⟩ := G0.cf8; have jlt := G0.lt))); clear T0; have T0 := T1; clear T1; clear hB))
        all_goals go_wp2_with fail
        all_goals go_meet
        all_goals have hl := (T0.b 3 rfl).lt
        all_goals have hlX := BX.lt
        all_goals have hlY := BY.lt
        all_goals first | (with_reducible exact ⟨cutK_new T0 (by omega), BX.alloc _, BY.alloc _⟩) | (with_reducible exact ⟨cutK_set T0 G0 (by omega) (by simp; omega), BX.set8 (by omega), BY.set8 (by omega)⟩)
      case rest =>
        clear T0 h0 C2 D2 BX BY
        obtain ⟨⟨gZ, hp, hgZ, T0, BZ⟩, BX, BY⟩ := hcut
        subst hp
        have h0 := (T0.b 3 rfl).lt
        clear h0
        go_upto_region 4 with fail
        go_region_held3 (fun w' => w'.cell? ⟨gX, 0, none⟩ = some (.int .u64 (lw0 X)) ∧ w'.cell? ⟨gX, 1, none⟩ = some (.int .u64 (lw1 X)) ∧ w'.cell? ⟨gX, 2, none⟩ = some (.int .u64 (lw2 X)) ∧ w'.cell? ⟨gX, 3, none⟩ = some (.int .u64 (lw3 X)) ∧ w'.cell? ⟨gX, 4, none⟩ = some (.int .u64 (lw4 X)) ∧ w'.cell? ⟨gX, 5, none⟩ = some (.int .u64 (lw5 X)) ∧ w'.cell? ⟨gX, 6, none⟩ = some (.int .u64 (lw6 X)) ∧ w'.cell? ⟨gX, 7, none⟩ = some (.int .u64 (lw7 X)) ∧ w'.cell? ⟨gY, 0, none⟩ = some (.int .u64 (lw0 Y)) ∧ w'.cell? ⟨gY, 1, none⟩ = some (.int .u64 (lw1 Y)) ∧ w'.cell? ⟨gY, 2, none⟩ = some (.int .u64 (lw2 Y)) ∧ w'.cell? ⟨gY, 3, none⟩ = some (.int .u64 (lw3 Y)) ∧ w'.cell? ⟨gY, 4, none⟩ = some (.int .u64 (lw4 Y)) ∧ w'.cell? ⟨gY, 5, none⟩ = some (.int .u64 (lw5 Y)) ∧ w'.cell? ⟨gY, 6, none⟩ = some (.int .u64 (lw6 Y)) ∧ w'.cell? ⟨gY, 7, none⟩ = some (.int .u64 (lw7 Y)) ∧ w'.cell? ⟨gZ, 0, none⟩ = some (.int .u64 (lw0 Z)) ∧ w'.cell? ⟨gZ, 1, none⟩ = some (.int .u64 (lw1 Z)) ∧ w'.cell? ⟨gZ, 2, none⟩ = some (.int .u64 (lw2 Z)) ∧ w'.cell? ⟨gZ, 3, none⟩ = some (.int .u64 (lw3 Z)) ∧ w'.cell? ⟨gZ, 4, none⟩ = some (.int .u64 (lw4 Z)) ∧ w'.cell? ⟨gZ, 5, none⟩ = some (.int .u64 (lw5 Z)) ∧ w'.cell? ⟨gZ, 6, none⟩ = some (.int .u64 (lw6 Z)) ∧ w'.cell? ⟨gZ, 7, none⟩ = some (.int .u64 (lw7 Z))) (first | (with_reducible exact tl_cells BX BY BZ) | (with_reducible exact tl_cells BX.drew BY.drew BZ.drew) | (with_reducible exact tl_cells8 BX BY BZ (by omega) (by omega) (by omega)))
          (first
            | (go_at_call 122; refine (E1 _).mono ?_; rintro e f1 ⟨rfl, hB⟩; (first | (replace BX := BX.step hB; replace BY := BY.step hB; replace BZ := BZ.step hB; replace T0 := T0.step hB) | (replace BX := BX.drew.step hB; replace BY := BY.drew.step hB; replace BZ := BZ.drew.step hB; replace T0 := T0.drew.step hB)); clear hB)
            | (go_at_call 123; refine (E2 _).mono ?_; rintro e f2 ⟨rfl, hB⟩; (first | (replace BX := BX.step hB; replace BY := BY.step hB; replace BZ := BZ.step hB; replace T0 := T0.step hB) | (replace BX := BX.drew.step hB; replace BY := BY.drew.step hB; replace BZ := BZ.drew.step hB; replace T0 := T0.drew.step hB)); clear hB; have o0 := (T0.b 3 rfl).c 0 rfl; have p0 := (T0.b 3 rfl).f 0 rfl; have o1 := (T0.b 3 rfl).c 1 rfl; have p1 := (T0.b 3 rfl).f 1 rfl; have o2 := (T0.b 3 rfl).c 2 rfl; have p2 := (T0.b 3 rfl).f 2 rfl; have o3 := (T0.b 3 rfl).c 3 rfl; have p3 := (T0.b 3 rfl).f 3 rfl; have o4 := (T0.b 3 rfl).c 4 rfl; have p4 := (T0.b 3 rfl).f 4 rfl; have o5 := (T0.b 3 rfl).c 5 rfl; have p5 := (T0.b 3 rfl).f 5 rfl; have o6 := (T0.b 3 rfl).c 6 rfl; have p6 := (T0.b 3 rfl).f 6 rfl; have o7 := (T0.b 3 rfl).c 7 rfl; have p7 := (T0.b 3 rfl).f 7 rfl; have olt := (T0.b 3 rfl).lt))
        all_goals have HB := T0.below
        all_goals clear BX BY BZ T0
        all_goals go_wp2
        all_goals refine bodyPost_ret (v := LV (X - Y + Z)) (by simp [results, Tryz.results98, go_sem, o0, o1, o2, o3, o4, o5, o6, o7]) rfl ?_
        all_goals refine ⟨by rw [HO.out], ?_⟩
        all_goals repeat' (refine Below.setCell ?_ (by simp; try omega) _)
        all_goals first | exact HB | exact HB.drew
theorem det_abs {x y z u v t a b c : Int} (sx : small x = true) (sy : small y = true) (sz : small z = true) (su : small u = true) (sv : small v = true) (st : small t = true) (sa : small a = true) (sb : small b = true) (sc : small c = true) : (detJ x y z u v t a b c).natAbs ≤ 10601082388670305977499785004457511094964903381253713748729637207755718656 := by
  have e0 := triple_abs sa (minor_abs sy sz sv st)
  have e1 := triple_abs sb (minor_abs sx sz su st)
  have e2 := triple_abs sc (minor_abs sx sy su sv)
  unfold detJ
  omega
set_option maxRecDepth 100000 in
set_option maxHeartbeats 2000000 in
theorem turn_det (x y z u v t a b c : Int) (sx : small x = true) (sy : small y = true) (sz : small z = true) (su : small u = true) (sv : small v = true) (st : small t = true) (sa : small a = true) (sb : small b = true) (sc : small c = true) (w : World) : Calls Tryz.prog 63 #[PV x y z, PV u v t, PV a b c] w (VP (.int .i64 (turnJ x y z u v t a b c)) w) := by
  have T0 : ArgsB w (((w.alloc (.cells #[.int .u64 (ww3 x), .int .u64 (ww2 x), .int .u64 (ww1 x), .int .u64 (ww0 x), .int .u64 (ww3 y), .int .u64 (ww2 y), .int .u64 (ww1 y), .int .u64 (ww0 y), .int .u64 (ww3 z), .int .u64 (ww2 z), .int .u64 (ww1 z), .int .u64 (ww0 z)] 35)).alloc (.cells #[.int .u64 (ww3 u), .int .u64 (ww2 u), .int .u64 (ww1 u), .int .u64 (ww0 u), .int .u64 (ww3 v), .int .u64 (ww2 v), .int .u64 (ww1 v), .int .u64 (ww0 v), .int .u64 (ww3 t), .int .u64 (ww2 t), .int .u64 (ww1 t), .int .u64 (ww0 t)] 35)).alloc (.cells #[.int .u64 (ww3 a), .int .u64 (ww2 a), .int .u64 (ww1 a), .int .u64 (ww0 a), .int .u64 (ww3 b), .int .u64 (ww2 b), .int .u64 (ww1 b), .int .u64 (ww0 b), .int .u64 (ww3 c), .int .u64 (ww2 c), .int .u64 (ww1 c), .int .u64 (ww0 c)] 35)) [[.int .u64 (ww3 x), .int .u64 (ww2 x), .int .u64 (ww1 x), .int .u64 (ww0 x), .int .u64 (ww3 y), .int .u64 (ww2 y), .int .u64 (ww1 y), .int .u64 (ww0 y), .int .u64 (ww3 z), .int .u64 (ww2 z), .int .u64 (ww1 z), .int .u64 (ww0 z)], [.int .u64 (ww3 u), .int .u64 (ww2 u), .int .u64 (ww1 u), .int .u64 (ww0 u), .int .u64 (ww3 v), .int .u64 (ww2 v), .int .u64 (ww1 v), .int .u64 (ww0 v), .int .u64 (ww3 t), .int .u64 (ww2 t), .int .u64 (ww1 t), .int .u64 (ww0 t)], [.int .u64 (ww3 a), .int .u64 (ww2 a), .int .u64 (ww1 a), .int .u64 (ww0 a), .int .u64 (ww3 b), .int .u64 (ww2 b), .int .u64 (ww1 b), .int .u64 (ww0 b), .int .u64 (ww3 c), .int .u64 (ww2 c), .int .u64 (ww1 c), .int .u64 (ww0 c)]] := ar3 _ _ _ _ _ _ w
  have C := corners_det x y z u v t a b c sx sy sz su sv st sa sb sc
  have E := signL_det (detJ x y z u v t a b c) (lr_abs (by have := det_abs sx sy sz su sv st sa sb sc; omega))
  have HO : Hid (turnJ x y z u v t a b c = cmpI (detJ x y z u v t a b c) 0) := rfl
  clear sx sy sz su sv st sa sb sc
  generalize detJ x y z u v t a b c = D at *
  have q := t3_cells3 T0
  go_enter Tryz.func63, Tryz.ntmps63
  go_upto_region 1 with fail
  generalize (((w.alloc (.cells #[.int .u64 (ww3 x), .int .u64 (ww2 x), .int .u64 (ww1 x), .int .u64 (ww0 x), .int .u64 (ww3 y), .int .u64 (ww2 y), .int .u64 (ww1 y), .int .u64 (ww0 y), .int .u64 (ww3 z), .int .u64 (ww2 z), .int .u64 (ww1 z), .int .u64 (ww0 z)] 35)).alloc (.cells #[.int .u64 (ww3 u), .int .u64 (ww2 u), .int .u64 (ww1 u), .int .u64 (ww0 u), .int .u64 (ww3 v), .int .u64 (ww2 v), .int .u64 (ww1 v), .int .u64 (ww0 v), .int .u64 (ww3 t), .int .u64 (ww2 t), .int .u64 (ww1 t), .int .u64 (ww0 t)] 35)).alloc (.cells #[.int .u64 (ww3 a), .int .u64 (ww2 a), .int .u64 (ww1 a), .int .u64 (ww0 a), .int .u64 (ww3 b), .int .u64 (ww2 b), .int .u64 (ww1 b), .int .u64 (ww0 b), .int .u64 (ww3 c), .int .u64 (ww2 c), .int .u64 (ww1 c), .int .u64 (ww0 c)] 35)) = W at *
  obtain ⟨q0, q1, q2, q3, q4, q5, q6, q7, q8, q9, q10, q11, q12, q13, q14, q15, q16, q17, q18, q19, q20, q21, q22, q23, q24, q25, q26, q27, q28, q29, q30, q31, q32, q33, q34, q35⟩ := q
  have HB := T0.below
  clear T0
  go_wp2_with fail
  refine (C _).mono ?_
  rintro e w1 ⟨rfl, hB⟩
  replace HB := HB.trans (hB.mono HB.size)
  clear hB q0 q1 q2 q3 q4 q5 q6 q7 q8 q9 q10 q11 q12 q13 q14 q15 q16 q17 q18 q19 q20 q21 q22 q23 q24 q25 q26 q27 q28 q29 q30 q31 q32 q33 q34 q35
  go_wp2_with fail
  refine (E _).mono ?_
  rintro e w2 ⟨rfl, hB⟩
  replace HB := HB.trans (hB.mono HB.size)
  clear hB
  go_wp2
  go_ret
  exact ⟨by rw [HO.out]; rfl, HB⟩
end Go.Proofs.YtpmnmlhfaoajdaaGreat

/- The turn of three points: both sides. -/
namespace Go.Proofs.YtpmnmlhfaoajdaaGreat
open Go.RowKit
theorem turn_same (x y z u v t a b c : Int) : turnJ x y z u v t a b c = turnI x y z u v t a b c := by
  unfold turnJ turnI
  congr 1
  grind
end Go.Proofs.YtpmnmlhfaoajdaaGreat

/- On which side of a segment a point lies: both sides. -/
namespace Go.Proofs.YtpmnmlhfaoajdaaGreat
open Go.RowKit
theorem in6_seg {a b c d : Int} (h : segOk a b c d = true) : (-1000000 ≤ a ∧ a ≤ 1000000) ∧ (-1000000 ≤ b ∧ b ≤ 1000000) ∧ (-1000000 ≤ c ∧ c ≤ 1000000) ∧ (-1000000 ≤ d ∧ d ≤ 1000000) := by
  unfold segOk spotOk at h
  simp at h
  omega
theorem l3Spot_det (a b : Int) (ha : -1000000 ≤ a ∧ a ≤ 1000000) (hb : -1000000 ≤ b ∧ b ≤ 1000000) (w : World) : Calls Tryz.prog 86 #[Sp a b] w (L3P 8 a b 1 w) := by
  refine (l3Spot_any a b (by omega) (by omega) (by omega) (by omega) w).mono ?_
  rintro e w' ⟨s1, o1, n1, c1, d1, s2, o2, n2, c2, d2, s3, o3, n3, c3, d3, rfl, N1, N2, N3, hB⟩
  exact ⟨s1, o1, n1, c1, d1, s2, o2, n2, c2, d2, s3, o3, n3, c3, d3, rfl, num_more N1 (by omega), num_more N2 (by omega), num_more N3 (by omega), hB⟩
end Go.Proofs.YtpmnmlhfaoajdaaGreat

/- What lies between two points: the reckoning, and the program's walks. -/
namespace Go.Proofs.YtpmnmlhfaoajdaaGreat
open Go.RowKit
/-- Whether the third point lies between the two, as the model says it. -/
def btwS (x y z u v t a b c : Int) : Bool := if 0 < ordI x y z u v t then decide (ordI u v t a b c ≤ 0) && decide (ordI a b c x y z ≤ 0) && decide (turnI u v t x y z a b c = 0) else decide (ordI x y z a b c ≤ 0) && decide (ordI a b c u v t ≤ 0) && decide (turnI x y z u v t a b c = 0)
end Go.Proofs.YtpmnmlhfaoajdaaGreat

/- What lies between two points: the program's walks. -/
namespace Go.Proofs.YtpmnmlhfaoajdaaGreat
open Go.RowKit
end Go.Proofs.YtpmnmlhfaoajdaaGreat

/- What lies between two points: the model's walk, and both sides. -/
namespace Go.Proofs.YtpmnmlhfaoajdaaGreat
open Go.RowKit
theorem swap_args {ps1 ps2 ps3 : Bool} {po1 po2 po3 : Option Addr} {pn1 pc1 pn2 pc2 pn3 pc3 : Nat} {qs1 qs2 qs3 : Bool} {qo1 qo2 qo3 : Option Addr} {qn1 qc1 qn2 qc2 qn3 qc3 : Nat} {rs1 rs2 rs3 : Bool} {ro1 ro2 ro3 : Option Addr} {rn1 rc1 rn2 rc2 rn3 rc3 : Nat} {w W : World} (T0 : ArgsB w W [[.bool ps1, .slice po1 pn1 pc1, .bool ps2, .slice po2 pn2 pc2, .bool ps3, .slice po3 pn3 pc3], [.bool qs1, .slice qo1 qn1 qc1, .bool qs2, .slice qo2 qn2 qc2, .bool qs3, .slice qo3 qn3 qc3], [.bool rs1, .slice ro1 rn1 rc1, .bool rs2, .slice ro2 rn2 rc2, .bool rs3, .slice ro3 rn3 rc3]]) : ArgsB w ((((((((((((W.setCell ⟨w.heap.size, 0, none⟩ (.bool qs1)).setCell ⟨w.heap.size, 1, none⟩ (.slice qo1 qn1 qc1)).setCell ⟨w.heap.size, 2, none⟩ (.bool qs2)).setCell ⟨w.heap.size, 3, none⟩ (.slice qo2 qn2 qc2)).setCell ⟨w.heap.size, 4, none⟩ (.bool qs3)).setCell ⟨w.heap.size, 5, none⟩ (.slice qo3 qn3 qc3)).setCell ⟨w.heap.size + 1, 0, none⟩ (.bool ps1)).setCell ⟨w.heap.size + 1, 1, none⟩ (.slice po1 pn1 pc1)).setCell ⟨w.heap.size + 1, 2, none⟩ (.bool ps2)).setCell ⟨w.heap.size + 1, 3, none⟩ (.slice po2 pn2 pc2)).setCell ⟨w.heap.size + 1, 4, none⟩ (.bool ps3)).setCell ⟨w.heap.size + 1, 5, none⟩ (.slice po3 pn3 pc3)) [[.bool qs1, .slice qo1 qn1 qc1, .bool qs2, .slice qo2 qn2 qc2, .bool qs3, .slice qo3 qn3 qc3], [.bool ps1, .slice po1 pn1 pc1, .bool ps2, .slice po2 pn2 pc2, .bool ps3, .slice po3 pn3 pc3], [.bool rs1, .slice ro1 rn1 rc1, .bool rs2, .slice ro2 rn2 rc2, .bool rs3, .slice ro3 rn3 rc3]] := by
  have X0 : Blk W w.heap.size [.bool ps1, .slice po1 pn1 pc1, .bool ps2, .slice po2 pn2 pc2, .bool ps3, .slice po3 pn3 pc3] := T0.b 0 rfl
  have Y0 : Blk W (w.heap.size + 1) [.bool qs1, .slice qo1 qn1 qc1, .bool qs2, .slice qo2 qn2 qc2, .bool qs3, .slice qo3 qn3 qc3] := T0.b 1 rfl
  have Z0 : Blk W (w.heap.size + 2) [.bool rs1, .slice ro1 rn1 rc1, .bool rs2, .slice ro2 rn2 rc2, .bool rs3, .slice ro3 rn3 rc3] := T0.b 2 rfl
  have X1 := ((((((X0.setI 0 (by simp) (.bool qs1)).setI 1 (by simp) (.slice qo1 qn1 qc1)).setI 2 (by simp) (.bool qs2)).setI 3 (by simp) (.slice qo2 qn2 qc2)).setI 4 (by simp) (.bool qs3)).setI 5 (by simp) (.slice qo3 qn3 qc3))
  simp only [List.set_cons_zero, List.set_cons_succ] at X1
  have X2 := ((((((X1.setO (p := ⟨w.heap.size + 1, 0, none⟩) (by show w.heap.size ≠ w.heap.size + 1; omega) (.bool ps1)).setO (p := ⟨w.heap.size + 1, 1, none⟩) (by show w.heap.size ≠ w.heap.size + 1; omega) (.slice po1 pn1 pc1)).setO (p := ⟨w.heap.size + 1, 2, none⟩) (by show w.heap.size ≠ w.heap.size + 1; omega) (.bool ps2)).setO (p := ⟨w.heap.size + 1, 3, none⟩) (by show w.heap.size ≠ w.heap.size + 1; omega) (.slice po2 pn2 pc2)).setO (p := ⟨w.heap.size + 1, 4, none⟩) (by show w.heap.size ≠ w.heap.size + 1; omega) (.bool ps3)).setO (p := ⟨w.heap.size + 1, 5, none⟩) (by show w.heap.size ≠ w.heap.size + 1; omega) (.slice po3 pn3 pc3))
  have Y1 := ((((((Y0.setO (p := ⟨w.heap.size, 0, none⟩) (by show w.heap.size + 1 ≠ w.heap.size; omega) (.bool qs1)).setO (p := ⟨w.heap.size, 1, none⟩) (by show w.heap.size + 1 ≠ w.heap.size; omega) (.slice qo1 qn1 qc1)).setO (p := ⟨w.heap.size, 2, none⟩) (by show w.heap.size + 1 ≠ w.heap.size; omega) (.bool qs2)).setO (p := ⟨w.heap.size, 3, none⟩) (by show w.heap.size + 1 ≠ w.heap.size; omega) (.slice qo2 qn2 qc2)).setO (p := ⟨w.heap.size, 4, none⟩) (by show w.heap.size + 1 ≠ w.heap.size; omega) (.bool qs3)).setO (p := ⟨w.heap.size, 5, none⟩) (by show w.heap.size + 1 ≠ w.heap.size; omega) (.slice qo3 qn3 qc3))
  have Y2 := ((((((Y1.setI 0 (by simp) (.bool ps1)).setI 1 (by simp) (.slice po1 pn1 pc1)).setI 2 (by simp) (.bool ps2)).setI 3 (by simp) (.slice po2 pn2 pc2)).setI 4 (by simp) (.bool ps3)).setI 5 (by simp) (.slice po3 pn3 pc3))
  simp only [List.set_cons_zero, List.set_cons_succ] at Y2
  have Z1 := ((((((Z0.setO (p := ⟨w.heap.size, 0, none⟩) (by show w.heap.size + 2 ≠ w.heap.size; omega) (.bool qs1)).setO (p := ⟨w.heap.size, 1, none⟩) (by show w.heap.size + 2 ≠ w.heap.size; omega) (.slice qo1 qn1 qc1)).setO (p := ⟨w.heap.size, 2, none⟩) (by show w.heap.size + 2 ≠ w.heap.size; omega) (.bool qs2)).setO (p := ⟨w.heap.size, 3, none⟩) (by show w.heap.size + 2 ≠ w.heap.size; omega) (.slice qo2 qn2 qc2)).setO (p := ⟨w.heap.size, 4, none⟩) (by show w.heap.size + 2 ≠ w.heap.size; omega) (.bool qs3)).setO (p := ⟨w.heap.size, 5, none⟩) (by show w.heap.size + 2 ≠ w.heap.size; omega) (.slice qo3 qn3 qc3))
  have Z2 := ((((((Z1.setO (p := ⟨w.heap.size + 1, 0, none⟩) (by show w.heap.size + 2 ≠ w.heap.size + 1; omega) (.bool ps1)).setO (p := ⟨w.heap.size + 1, 1, none⟩) (by show w.heap.size + 2 ≠ w.heap.size + 1; omega) (.slice po1 pn1 pc1)).setO (p := ⟨w.heap.size + 1, 2, none⟩) (by show w.heap.size + 2 ≠ w.heap.size + 1; omega) (.bool ps2)).setO (p := ⟨w.heap.size + 1, 3, none⟩) (by show w.heap.size + 2 ≠ w.heap.size + 1; omega) (.slice po2 pn2 pc2)).setO (p := ⟨w.heap.size + 1, 4, none⟩) (by show w.heap.size + 2 ≠ w.heap.size + 1; omega) (.bool ps3)).setO (p := ⟨w.heap.size + 1, 5, none⟩) (by show w.heap.size + 2 ≠ w.heap.size + 1; omega) (.slice po3 pn3 pc3))
  refine ⟨?_, fun j vs hj => ?_⟩
  · repeat' (refine Below.setCell ?_ (by simp) _)
    exact T0.below
  · match j, hj with
    | 0, hj => cases hj; exact X2
    | 1, hj => cases hj; exact Y2
    | 2, hj => cases hj; exact Z2
    | j + 3, hj => simp at hj
theorem num_set6g {w : World} {s : Bool} {ao : Option Addr} {n cap : Nat} {ds : List Int} {z : Int} {k R : Nat} (h : IsNum w s ao n cap ds z k) {qs1 qs2 qs3 : Bool} {qo1 qo2 qo3 : Option Addr} {qn1 qc1 qn2 qc2 qn3 qc3 : Nat} (B : Blk w R [.bool qs1, .slice qo1 qn1 qc1, .bool qs2, .slice qo2 qn2 qc2, .bool qs3, .slice qo3 qn3 qc3]) (v0 v1 v2 v3 v4 v5 : Value) : IsNum ((((((w.setCell ⟨R, 0, none⟩ v0).setCell ⟨R, 1, none⟩ v1).setCell ⟨R, 2, none⟩ v2).setCell ⟨R, 3, none⟩ v3).setCell ⟨R, 4, none⟩ v4).setCell ⟨R, 5, none⟩ v5) s ao n cap ds z k := by
  have h1 := h.setp v0 (B.c 0 rfl) (by intro x e; cases e)
  have B1 := B.setI 0 (by simp) v0
  have h2 := h1.setp v1 (B1.c 1 rfl) (by intro x e; cases e)
  have B2 := B1.setI 1 (by simp) v1
  have h3 := h2.setp v2 (B2.c 2 rfl) (by intro x e; cases e)
  have B3 := B2.setI 2 (by simp) v2
  have h4 := h3.setp v3 (B3.c 3 rfl) (by intro x e; cases e)
  have B4 := B3.setI 3 (by simp) v3
  have h5 := h4.setp v4 (B4.c 4 rfl) (by intro x e; cases e)
  have B5 := B4.setI 4 (by simp) v4
  exact h5.setp v5 (B5.c 5 rfl) (by intro x e; cases e)
theorem swap_num {w W : World} {s : Bool} {ao : Option Addr} {n cap : Nat} {ds : List Int} {z : Int} {k : Nat} (h : IsNum W s ao n cap ds z k) {ps1 ps2 ps3 : Bool} {po1 po2 po3 : Option Addr} {pn1 pc1 pn2 pc2 pn3 pc3 : Nat} {qs1 qs2 qs3 : Bool} {qo1 qo2 qo3 : Option Addr} {qn1 qc1 qn2 qc2 qn3 qc3 : Nat} {rs1 rs2 rs3 : Bool} {ro1 ro2 ro3 : Option Addr} {rn1 rc1 rn2 rc2 rn3 rc3 : Nat} (T0 : ArgsB w W [[.bool ps1, .slice po1 pn1 pc1, .bool ps2, .slice po2 pn2 pc2, .bool ps3, .slice po3 pn3 pc3], [.bool qs1, .slice qo1 qn1 qc1, .bool qs2, .slice qo2 qn2 qc2, .bool qs3, .slice qo3 qn3 qc3], [.bool rs1, .slice ro1 rn1 rc1, .bool rs2, .slice ro2 rn2 rc2, .bool rs3, .slice ro3 rn3 rc3]]) : IsNum ((((((((((((W.setCell ⟨w.heap.size, 0, none⟩ (.bool qs1)).setCell ⟨w.heap.size, 1, none⟩ (.slice qo1 qn1 qc1)).setCell ⟨w.heap.size, 2, none⟩ (.bool qs2)).setCell ⟨w.heap.size, 3, none⟩ (.slice qo2 qn2 qc2)).setCell ⟨w.heap.size, 4, none⟩ (.bool qs3)).setCell ⟨w.heap.size, 5, none⟩ (.slice qo3 qn3 qc3)).setCell ⟨w.heap.size + 1, 0, none⟩ (.bool ps1)).setCell ⟨w.heap.size + 1, 1, none⟩ (.slice po1 pn1 pc1)).setCell ⟨w.heap.size + 1, 2, none⟩ (.bool ps2)).setCell ⟨w.heap.size + 1, 3, none⟩ (.slice po2 pn2 pc2)).setCell ⟨w.heap.size + 1, 4, none⟩ (.bool ps3)).setCell ⟨w.heap.size + 1, 5, none⟩ (.slice po3 pn3 pc3)) s ao n cap ds z k := by
  have X0 : Blk W w.heap.size [.bool ps1, .slice po1 pn1 pc1, .bool ps2, .slice po2 pn2 pc2, .bool ps3, .slice po3 pn3 pc3] := T0.b 0 rfl
  have Y0 : Blk W (w.heap.size + 1) [.bool qs1, .slice qo1 qn1 qc1, .bool qs2, .slice qo2 qn2 qc2, .bool qs3, .slice qo3 qn3 qc3] := T0.b 1 rfl
  have Y1 := ((((((Y0.setO (p := ⟨w.heap.size, 0, none⟩) (by show w.heap.size + 1 ≠ w.heap.size; omega) (.bool qs1)).setO (p := ⟨w.heap.size, 1, none⟩) (by show w.heap.size + 1 ≠ w.heap.size; omega) (.slice qo1 qn1 qc1)).setO (p := ⟨w.heap.size, 2, none⟩) (by show w.heap.size + 1 ≠ w.heap.size; omega) (.bool qs2)).setO (p := ⟨w.heap.size, 3, none⟩) (by show w.heap.size + 1 ≠ w.heap.size; omega) (.slice qo2 qn2 qc2)).setO (p := ⟨w.heap.size, 4, none⟩) (by show w.heap.size + 1 ≠ w.heap.size; omega) (.bool qs3)).setO (p := ⟨w.heap.size, 5, none⟩) (by show w.heap.size + 1 ≠ w.heap.size; omega) (.slice qo3 qn3 qc3))
  exact num_set6g (num_set6g h X0 _ _ _ _ _ _) Y1 _ _ _ _ _ _
set_option maxRecDepth 100000 in
set_option maxHeartbeats 8000000 in
theorem l3Between_any (ps1 ps2 ps3 : Bool) (po1 po2 po3 : Option Addr) (pn1 pc1 pn2 pc2 pn3 pc3 : Nat) (qs1 qs2 qs3 : Bool) (qo1 qo2 qo3 : Option Addr) (qn1 qc1 qn2 qc2 qn3 qc3 : Nat) (rs1 rs2 rs3 : Bool) (ro1 ro2 ro3 : Option Addr) (rn1 rc1 rn2 rc2 rn3 rc3 : Nat) (pd1 pd2 pd3 qd1 qd2 qd3 rd1 rd2 rd3 : List Int) (x y z u v t a b c : Int) (k : Nat) (hk : k ≤ 1000) (w : World) (Np1 : IsNum w ps1 po1 pn1 pc1 pd1 x k) (Np2 : IsNum w ps2 po2 pn2 pc2 pd2 y k) (Np3 : IsNum w ps3 po3 pn3 pc3 pd3 z k) (Nq1 : IsNum w qs1 qo1 qn1 qc1 qd1 u k) (Nq2 : IsNum w qs2 qo2 qn2 qc2 qd2 v k) (Nq3 : IsNum w qs3 qo3 qn3 qc3 qd3 t k) (Nr1 : IsNum w rs1 ro1 rn1 rc1 rd1 a k) (Nr2 : IsNum w rs2 ro2 rn2 rc2 rd2 b k) (Nr3 : IsNum w rs3 ro3 rn3 rc3 rd3 c k) : Calls Tryz.prog 85 #[.agg #[.bool ps1, .slice po1 pn1 pc1, .bool ps2, .slice po2 pn2 pc2, .bool ps3, .slice po3 pn3 pc3], .agg #[.bool qs1, .slice qo1 qn1 qc1, .bool qs2, .slice qo2 qn2 qc2, .bool qs3, .slice qo3 qn3 qc3], .agg #[.bool rs1, .slice ro1 rn1 rc1, .bool rs2, .slice ro2 rn2 rc2, .bool rs3, .slice ro3 rn3 rc3]] w (VP (.bool (btwS x y z u v t a b c)) w) := by
  have T0 : ArgsB w (((w.alloc (.cells #[.bool ps1, .slice po1 pn1 pc1, .bool ps2, .slice po2 pn2 pc2, .bool ps3, .slice po3 pn3 pc3] 58)).alloc (.cells #[.bool qs1, .slice qo1 qn1 qc1, .bool qs2, .slice qo2 qn2 qc2, .bool qs3, .slice qo3 qn3 qc3] 58)).alloc (.cells #[.bool rs1, .slice ro1 rn1 rc1, .bool rs2, .slice ro2 rn2 rc2, .bool rs3, .slice ro3 rn3 rc3] 58)) [[.bool ps1, .slice po1 pn1 pc1, .bool ps2, .slice po2 pn2 pc2, .bool ps3, .slice po3 pn3 pc3], [.bool qs1, .slice qo1 qn1 qc1, .bool qs2, .slice qo2 qn2 qc2, .bool qs3, .slice qo3 qn3 qc3], [.bool rs1, .slice ro1 rn1 rc1, .bool rs2, .slice ro2 rn2 rc2, .bool rs3, .slice ro3 rn3 rc3]] := ar3 _ _ _ _ _ _ w
  replace Np1 := Np1.below T0.below
  replace Np2 := Np2.below T0.below
  replace Np3 := Np3.below T0.below
  replace Nq1 := Nq1.below T0.below
  replace Nq2 := Nq2.below T0.below
  replace Nq3 := Nq3.below T0.below
  replace Nr1 := Nr1.below T0.below
  replace Nr2 := Nr2.below T0.below
  replace Nr3 := Nr3.below T0.below
  go_enter Tryz.func85, Tryz.ntmps85
  go_wp2_with fail
  generalize (((w.alloc (.cells #[.bool ps1, .slice po1 pn1 pc1, .bool ps2, .slice po2 pn2 pc2, .bool ps3, .slice po3 pn3 pc3] 58)).alloc (.cells #[.bool qs1, .slice qo1 qn1 qc1, .bool qs2, .slice qo2 qn2 qc2, .bool qs3, .slice qo3 qn3 qc3] 58)).alloc (.cells #[.bool rs1, .slice ro1 rn1 rc1, .bool rs2, .slice ro2 rn2 rc2, .bool rs3, .slice ro3 rn3 rc3] 58)) = W at *
  refine (l3Cmp_any ps1 ps2 ps3 po1 po2 po3 pn1 pc1 pn2 pc2 pn3 pc3 qs1 qs2 qs3 qo1 qo2 qo3 qn1 qc1 qn2 qc2 qn3 qc3 pd1 pd2 pd3 qd1 qd2 qd3 x y z u v t k hk _ Np1 Np2 Np3 Nq1 Nq2 Nq3).mono ?_
  rintro e w1 ⟨rfl, hB⟩
  replace T0 := T0.step hB
  replace Np1 := Np1.below hB
  replace Np2 := Np2.below hB
  replace Np3 := Np3.below hB
  replace Nq1 := Nq1.below hB
  replace Nq2 := Nq2.below hB
  replace Nq3 := Nq3.below hB
  replace Nr1 := Nr1.below hB
  replace Nr2 := Nr2.below hB
  replace Nr3 := Nr3.below hB
  clear hB
  by_cases h1 : 0 < ordI x y z u v t
  · have d1 : decide (0 < ordI x y z u v t) = true := decide_eq_true h1
    have HC : (if 0 < ordI x y z u v t then decide (ordI u v t a b c ≤ 0) && decide (ordI a b c x y z ≤ 0) && decide (turnI u v t x y z a b c = 0) else decide (ordI x y z a b c ≤ 0) && decide (ordI a b c u v t ≤ 0) && decide (turnI x y z u v t a b c = 0)) = (decide (ordI u v t a b c ≤ 0) && decide (ordI a b c x y z ≤ 0) && decide (turnI u v t x y z a b c = 0)) := if_pos h1
    have X0 : Blk _ w.heap.size _ := T0.b 0 rfl
    have Y0 : Blk _ (w.heap.size + 1) _ := T0.b 1 rfl
    have p0 := X0.c 0 rfl; have pf0 := X0.f 0 rfl; have q0 := Y0.c 0 rfl; have qf0 := Y0.f 0 rfl; have p1 := X0.c 1 rfl; have pf1 := X0.f 1 rfl; have q1 := Y0.c 1 rfl; have qf1 := Y0.f 1 rfl; have p2 := X0.c 2 rfl; have pf2 := X0.f 2 rfl; have q2 := Y0.c 2 rfl; have qf2 := Y0.f 2 rfl; have p3 := X0.c 3 rfl; have pf3 := X0.f 3 rfl; have q3 := Y0.c 3 rfl; have qf3 := Y0.f 3 rfl; have p4 := X0.c 4 rfl; have pf4 := X0.f 4 rfl; have q4 := Y0.c 4 rfl; have qf4 := Y0.f 4 rfl; have p5 := X0.c 5 rfl; have pf5 := X0.f 5 rfl; have q5 := Y0.c 5 rfl; have qf5 := Y0.f 5 rfl
    have xl := X0.lt; have yl := Y0.lt
    go_upto_region 3 with fail
    clear p0 pf0 q0 qf0 p1 pf1 q1 qf1 p2 pf2 q2 qf2 p3 pf3 q3 qf3 p4 pf4 q4 qf4 p5 pf5 q5 qf5 xl yl X0 Y0
    replace Np1 := swap_num Np1 T0
    replace Np2 := swap_num Np2 T0
    replace Np3 := swap_num Np3 T0
    replace Nq1 := swap_num Nq1 T0
    replace Nq2 := swap_num Nq2 T0
    replace Nq3 := swap_num Nq3 T0
    replace Nr1 := swap_num Nr1 T0
    replace Nr2 := swap_num Nr2 T0
    replace Nr3 := swap_num Nr3 T0
    replace T0 := swap_args T0
    generalize ((((((((((((w1.setCell ⟨w.heap.size, 0, none⟩ (.bool qs1)).setCell ⟨w.heap.size, 1, none⟩ (.slice qo1 qn1 qc1)).setCell ⟨w.heap.size, 2, none⟩ (.bool qs2)).setCell ⟨w.heap.size, 3, none⟩ (.slice qo2 qn2 qc2)).setCell ⟨w.heap.size, 4, none⟩ (.bool qs3)).setCell ⟨w.heap.size, 5, none⟩ (.slice qo3 qn3 qc3)).setCell ⟨w.heap.size + 1, 0, none⟩ (.bool ps1)).setCell ⟨w.heap.size + 1, 1, none⟩ (.slice po1 pn1 pc1)).setCell ⟨w.heap.size + 1, 2, none⟩ (.bool ps2)).setCell ⟨w.heap.size + 1, 3, none⟩ (.slice po2 pn2 pc2)).setCell ⟨w.heap.size + 1, 4, none⟩ (.bool ps3)).setCell ⟨w.heap.size + 1, 5, none⟩ (.slice po3 pn3 pc3)) = W1 at *
    have X0 : Blk _ w.heap.size _ := T0.b 0 rfl; have Y0 : Blk _ (w.heap.size + 1) _ := T0.b 1 rfl; have Z0 : Blk _ (w.heap.size + 1 + 1) _ := T0.b 2 rfl; have p0 := X0.c 0 rfl; have q0 := Y0.c 0 rfl; have r0 := Z0.c 0 rfl; have p1 := X0.c 1 rfl; have q1 := Y0.c 1 rfl; have r1 := Z0.c 1 rfl; have p2 := X0.c 2 rfl; have q2 := Y0.c 2 rfl; have r2 := Z0.c 2 rfl; have p3 := X0.c 3 rfl; have q3 := Y0.c 3 rfl; have r3 := Z0.c 3 rfl; have p4 := X0.c 4 rfl; have q4 := Y0.c 4 rfl; have r4 := Z0.c 4 rfl; have p5 := X0.c 5 rfl; have q5 := Y0.c 5 rfl; have r5 := Z0.c 5 rfl; clear X0 Y0 Z0
    go_wp2_with fail
    refine (l3Cmp_any qs1 qs2 qs3 qo1 qo2 qo3 qn1 qc1 qn2 qc2 qn3 qc3 rs1 rs2 rs3 ro1 ro2 ro3 rn1 rc1 rn2 rc2 rn3 rc3 qd1 qd2 qd3 rd1 rd2 rd3 u v t a b c k hk _ Nq1 Nq2 Nq3 Nr1 Nr2 Nr3).mono ?_
    rintro e f1 ⟨rfl, hB⟩
    replace T0 := T0.step hB
    replace Np1 := Np1.below hB
    replace Np2 := Np2.below hB
    replace Np3 := Np3.below hB
    replace Nq1 := Nq1.below hB
    replace Nq2 := Nq2.below hB
    replace Nq3 := Nq3.below hB
    replace Nr1 := Nr1.below hB
    replace Nr2 := Nr2.below hB
    replace Nr3 := Nr3.below hB
    clear hB p0 q0 r0 p1 q1 r1 p2 q2 r2 p3 q3 r3 p4 q4 r4 p5 q5 r5
    by_cases h2 : ordI u v t a b c ≤ 0
    · have d2 : decide (ordI u v t a b c ≤ 0) = true := decide_eq_true h2
      have X0 : Blk _ w.heap.size _ := T0.b 0 rfl; have Y0 : Blk _ (w.heap.size + 1) _ := T0.b 1 rfl; have Z0 : Blk _ (w.heap.size + 1 + 1) _ := T0.b 2 rfl; have p0 := X0.c 0 rfl; have q0 := Y0.c 0 rfl; have r0 := Z0.c 0 rfl; have p1 := X0.c 1 rfl; have q1 := Y0.c 1 rfl; have r1 := Z0.c 1 rfl; have p2 := X0.c 2 rfl; have q2 := Y0.c 2 rfl; have r2 := Z0.c 2 rfl; have p3 := X0.c 3 rfl; have q3 := Y0.c 3 rfl; have r3 := Z0.c 3 rfl; have p4 := X0.c 4 rfl; have q4 := Y0.c 4 rfl; have r4 := Z0.c 4 rfl; have p5 := X0.c 5 rfl; have q5 := Y0.c 5 rfl; have r5 := Z0.c 5 rfl; clear X0 Y0 Z0
      go_wp2_with fail
      refine (l3Cmp_any rs1 rs2 rs3 ro1 ro2 ro3 rn1 rc1 rn2 rc2 rn3 rc3 ps1 ps2 ps3 po1 po2 po3 pn1 pc1 pn2 pc2 pn3 pc3 rd1 rd2 rd3 pd1 pd2 pd3 a b c x y z k hk _ Nr1 Nr2 Nr3 Np1 Np2 Np3).mono ?_
      rintro e f2 ⟨rfl, hB⟩
      replace T0 := T0.step hB
      replace Np1 := Np1.below hB
      replace Np2 := Np2.below hB
      replace Np3 := Np3.below hB
      replace Nq1 := Nq1.below hB
      replace Nq2 := Nq2.below hB
      replace Nq3 := Nq3.below hB
      replace Nr1 := Nr1.below hB
      replace Nr2 := Nr2.below hB
      replace Nr3 := Nr3.below hB
      clear hB p0 q0 r0 p1 q1 r1 p2 q2 r2 p3 q3 r3 p4 q4 r4 p5 q5 r5
      by_cases h3 : ordI a b c x y z ≤ 0
      · have d3 : decide (ordI a b c x y z ≤ 0) = true := decide_eq_true h3
        have X0 : Blk _ w.heap.size _ := T0.b 0 rfl; have Y0 : Blk _ (w.heap.size + 1) _ := T0.b 1 rfl; have Z0 : Blk _ (w.heap.size + 1 + 1) _ := T0.b 2 rfl; have p0 := X0.c 0 rfl; have q0 := Y0.c 0 rfl; have r0 := Z0.c 0 rfl; have p1 := X0.c 1 rfl; have q1 := Y0.c 1 rfl; have r1 := Z0.c 1 rfl; have p2 := X0.c 2 rfl; have q2 := Y0.c 2 rfl; have r2 := Z0.c 2 rfl; have p3 := X0.c 3 rfl; have q3 := Y0.c 3 rfl; have r3 := Z0.c 3 rfl; have p4 := X0.c 4 rfl; have q4 := Y0.c 4 rfl; have r4 := Z0.c 4 rfl; have p5 := X0.c 5 rfl; have q5 := Y0.c 5 rfl; have r5 := Z0.c 5 rfl; clear X0 Y0 Z0
        go_wp2_with fail
        refine (l3Orient_any qs1 qs2 qs3 qo1 qo2 qo3 qn1 qc1 qn2 qc2 qn3 qc3 ps1 ps2 ps3 po1 po2 po3 pn1 pc1 pn2 pc2 pn3 pc3 rs1 rs2 rs3 ro1 ro2 ro3 rn1 rc1 rn2 rc2 rn3 rc3 qd1 qd2 qd3 pd1 pd2 pd3 rd1 rd2 rd3 u v t x y z a b c k hk _ Nq1 Nq2 Nq3 Np1 Np2 Np3 Nr1 Nr2 Nr3).mono ?_
        rintro e f3 ⟨rfl, hB⟩
        have HB := (T0.step hB).below
        have HR : Hid (btwS x y z u v t a b c = (turnI u v t x y z a b c == 0)) := by
          show _ = _
          unfold btwS
          rw [HC]
          simp only [h2, h3, decide_true, Bool.true_and]
          rw [Bool.eq_iff_iff, decide_eq_true_iff, beq_iff_eq]
        clear hB T0 p0 q0 r0 p1 q1 r1 p2 q2 r2 p3 q3 r3 p4 q4 r4 p5 q5 r5 Np1 Np2 Np3 Nq1 Nq2 Nq3 Nr1 Nr2 Nr3 HC h2 h3
        go_wp2
        go_ret
        exact ⟨by rw [HR.out]; rfl, HB⟩
      · have d3 : decide (ordI a b c x y z ≤ 0) = false := decide_eq_false h3
        have HR : Hid (btwS x y z u v t a b c = false) := by show _ = _; unfold btwS; rw [HC]; simp [h3]
        have HB := T0.below
        clear T0 Np1 Np2 Np3 Nq1 Nq2 Nq3 Nr1 Nr2 Nr3 HC h2 h3
        go_wp2
        go_ret
        exact ⟨by rw [HR.out]; rfl, HB⟩
    · have d2 : decide (ordI u v t a b c ≤ 0) = false := decide_eq_false h2
      have HR : Hid (btwS x y z u v t a b c = false) := by show _ = _; unfold btwS; rw [HC]; simp [h2]
      have HB := T0.below
      clear T0 Np1 Np2 Np3 Nq1 Nq2 Nq3 Nr1 Nr2 Nr3 HC h2
      go_wp2
      go_ret
      exact ⟨by rw [HR.out]; rfl, HB⟩
  · have d1 : decide (0 < ordI x y z u v t) = false := decide_eq_false h1
    have HC : (if 0 < ordI x y z u v t then decide (ordI u v t a b c ≤ 0) && decide (ordI a b c x y z ≤ 0) && decide (turnI u v t x y z a b c = 0) else decide (ordI x y z a b c ≤ 0) && decide (ordI a b c u v t ≤ 0) && decide (turnI x y z u v t a b c = 0)) = (decide (ordI x y z a b c ≤ 0) && decide (ordI a b c u v t ≤ 0) && decide (turnI x y z u v t a b c = 0)) := if_neg h1
    have X0 : Blk _ w.heap.size _ := T0.b 0 rfl; have Y0 : Blk _ (w.heap.size + 1) _ := T0.b 1 rfl; have Z0 : Blk _ (w.heap.size + 1 + 1) _ := T0.b 2 rfl; have p0 := X0.c 0 rfl; have q0 := Y0.c 0 rfl; have r0 := Z0.c 0 rfl; have p1 := X0.c 1 rfl; have q1 := Y0.c 1 rfl; have r1 := Z0.c 1 rfl; have p2 := X0.c 2 rfl; have q2 := Y0.c 2 rfl; have r2 := Z0.c 2 rfl; have p3 := X0.c 3 rfl; have q3 := Y0.c 3 rfl; have r3 := Z0.c 3 rfl; have p4 := X0.c 4 rfl; have q4 := Y0.c 4 rfl; have r4 := Z0.c 4 rfl; have p5 := X0.c 5 rfl; have q5 := Y0.c 5 rfl; have r5 := Z0.c 5 rfl; clear X0 Y0 Z0
    go_wp2_with fail
    refine (l3Cmp_any ps1 ps2 ps3 po1 po2 po3 pn1 pc1 pn2 pc2 pn3 pc3 rs1 rs2 rs3 ro1 ro2 ro3 rn1 rc1 rn2 rc2 rn3 rc3 pd1 pd2 pd3 rd1 rd2 rd3 x y z a b c k hk _ Np1 Np2 Np3 Nr1 Nr2 Nr3).mono ?_
    rintro e f1 ⟨rfl, hB⟩
    replace T0 := T0.step hB
    replace Np1 := Np1.below hB
    replace Np2 := Np2.below hB
    replace Np3 := Np3.below hB
    replace Nq1 := Nq1.below hB
    replace Nq2 := Nq2.below hB
    replace Nq3 := Nq3.below hB
    replace Nr1 := Nr1.below hB
    replace Nr2 := Nr2.below hB
    replace Nr3 := Nr3.below hB
    clear hB p0 q0 r0 p1 q1 r1 p2 q2 r2 p3 q3 r3 p4 q4 r4 p5 q5 r5
    by_cases h2 : ordI x y z a b c ≤ 0
    · have d2 : decide (ordI x y z a b c ≤ 0) = true := decide_eq_true h2
      have X0 : Blk _ w.heap.size _ := T0.b 0 rfl; have Y0 : Blk _ (w.heap.size + 1) _ := T0.b 1 rfl; have Z0 : Blk _ (w.heap.size + 1 + 1) _ := T0.b 2 rfl; have p0 := X0.c 0 rfl; have q0 := Y0.c 0 rfl; have r0 := Z0.c 0 rfl; have p1 := X0.c 1 rfl; have q1 := Y0.c 1 rfl; have r1 := Z0.c 1 rfl; have p2 := X0.c 2 rfl; have q2 := Y0.c 2 rfl; have r2 := Z0.c 2 rfl; have p3 := X0.c 3 rfl; have q3 := Y0.c 3 rfl; have r3 := Z0.c 3 rfl; have p4 := X0.c 4 rfl; have q4 := Y0.c 4 rfl; have r4 := Z0.c 4 rfl; have p5 := X0.c 5 rfl; have q5 := Y0.c 5 rfl; have r5 := Z0.c 5 rfl; clear X0 Y0 Z0
      go_wp2_with fail
      refine (l3Cmp_any rs1 rs2 rs3 ro1 ro2 ro3 rn1 rc1 rn2 rc2 rn3 rc3 qs1 qs2 qs3 qo1 qo2 qo3 qn1 qc1 qn2 qc2 qn3 qc3 rd1 rd2 rd3 qd1 qd2 qd3 a b c u v t k hk _ Nr1 Nr2 Nr3 Nq1 Nq2 Nq3).mono ?_
      rintro e f2 ⟨rfl, hB⟩
      replace T0 := T0.step hB
      replace Np1 := Np1.below hB
      replace Np2 := Np2.below hB
      replace Np3 := Np3.below hB
      replace Nq1 := Nq1.below hB
      replace Nq2 := Nq2.below hB
      replace Nq3 := Nq3.below hB
      replace Nr1 := Nr1.below hB
      replace Nr2 := Nr2.below hB
      replace Nr3 := Nr3.below hB
      clear hB p0 q0 r0 p1 q1 r1 p2 q2 r2 p3 q3 r3 p4 q4 r4 p5 q5 r5
      by_cases h3 : ordI a b c u v t ≤ 0
      · have d3 : decide (ordI a b c u v t ≤ 0) = true := decide_eq_true h3
        have X0 : Blk _ w.heap.size _ := T0.b 0 rfl; have Y0 : Blk _ (w.heap.size + 1) _ := T0.b 1 rfl; have Z0 : Blk _ (w.heap.size + 1 + 1) _ := T0.b 2 rfl; have p0 := X0.c 0 rfl; have q0 := Y0.c 0 rfl; have r0 := Z0.c 0 rfl; have p1 := X0.c 1 rfl; have q1 := Y0.c 1 rfl; have r1 := Z0.c 1 rfl; have p2 := X0.c 2 rfl; have q2 := Y0.c 2 rfl; have r2 := Z0.c 2 rfl; have p3 := X0.c 3 rfl; have q3 := Y0.c 3 rfl; have r3 := Z0.c 3 rfl; have p4 := X0.c 4 rfl; have q4 := Y0.c 4 rfl; have r4 := Z0.c 4 rfl; have p5 := X0.c 5 rfl; have q5 := Y0.c 5 rfl; have r5 := Z0.c 5 rfl; clear X0 Y0 Z0
        go_wp2_with fail
        refine (l3Orient_any ps1 ps2 ps3 po1 po2 po3 pn1 pc1 pn2 pc2 pn3 pc3 qs1 qs2 qs3 qo1 qo2 qo3 qn1 qc1 qn2 qc2 qn3 qc3 rs1 rs2 rs3 ro1 ro2 ro3 rn1 rc1 rn2 rc2 rn3 rc3 pd1 pd2 pd3 qd1 qd2 qd3 rd1 rd2 rd3 x y z u v t a b c k hk _ Np1 Np2 Np3 Nq1 Nq2 Nq3 Nr1 Nr2 Nr3).mono ?_
        rintro e f3 ⟨rfl, hB⟩
        have HB := (T0.step hB).below
        have HR : Hid (btwS x y z u v t a b c = (turnI x y z u v t a b c == 0)) := by
          show _ = _
          unfold btwS
          rw [HC]
          simp only [h2, h3, decide_true, Bool.true_and]
          rw [Bool.eq_iff_iff, decide_eq_true_iff, beq_iff_eq]
        clear hB T0 p0 q0 r0 p1 q1 r1 p2 q2 r2 p3 q3 r3 p4 q4 r4 p5 q5 r5 Np1 Np2 Np3 Nq1 Nq2 Nq3 Nr1 Nr2 Nr3 HC h2 h3
        go_wp2
        go_ret
        exact ⟨by rw [HR.out]; rfl, HB⟩
      · have d3 : decide (ordI a b c u v t ≤ 0) = false := decide_eq_false h3
        have HR : Hid (btwS x y z u v t a b c = false) := by show _ = _; unfold btwS; rw [HC]; simp [h3]
        have HB := T0.below
        clear T0 Np1 Np2 Np3 Nq1 Nq2 Nq3 Nr1 Nr2 Nr3 HC h2 h3
        go_wp2
        go_ret
        exact ⟨by rw [HR.out]; rfl, HB⟩
    · have d2 : decide (ordI x y z a b c ≤ 0) = false := decide_eq_false h2
      have HR : Hid (btwS x y z u v t a b c = false) := by show _ = _; unfold btwS; rw [HC]; simp [h2]
      have HB := T0.below
      clear T0 Np1 Np2 Np3 Nq1 Nq2 Nq3 Nr1 Nr2 Nr3 HC h2
      go_wp2
      go_ret
      exact ⟨by rw [HR.out]; rfl, HB⟩
end Go.Proofs.YtpmnmlhfaoajdaaGreat

/- What lies between two points: both sides. -/
namespace Go.Proofs.YtpmnmlhfaoajdaaGreat
open Go.RowKit
end Go.Proofs.YtpmnmlhfaoajdaaGreat

/- Whether a point lies on a segment: both sides. -/
namespace Go.Proofs.YtpmnmlhfaoajdaaGreat
open Go.RowKit
theorem on_cells {a b c d : Int} {rs1 rs2 rs3 : Bool} {ro1 ro2 ro3 : Option Addr} {rn1 rc1 rn2 rc2 rn3 rc3 : Nat} {w W : World} (T0 : ArgsB w W [[.int .i64 a, .int .i64 b, .int .i64 c, .int .i64 d], [.bool rs1, .slice ro1 rn1 rc1, .bool rs2, .slice ro2 rn2 rc2, .bool rs3, .slice ro3 rn3 rc3]]) : (fun w' => w'.cell? ⟨w.heap.size, 0, none⟩ = some (.int .i64 a) ∧ w'.cell? ⟨w.heap.size, 1, none⟩ = some (.int .i64 b) ∧ w'.cell? ⟨w.heap.size, 2, none⟩ = some (.int .i64 c) ∧ w'.cell? ⟨w.heap.size, 3, none⟩ = some (.int .i64 d) ∧ w'.cell? ⟨w.heap.size + 1, 0, none⟩ = some (.bool rs1) ∧ w'.cell? ⟨w.heap.size + 1, 1, none⟩ = some (.slice ro1 rn1 rc1) ∧ w'.cell? ⟨w.heap.size + 1, 2, none⟩ = some (.bool rs2) ∧ w'.cell? ⟨w.heap.size + 1, 3, none⟩ = some (.slice ro2 rn2 rc2) ∧ w'.cell? ⟨w.heap.size + 1, 4, none⟩ = some (.bool rs3) ∧ w'.cell? ⟨w.heap.size + 1, 5, none⟩ = some (.slice ro3 rn3 rc3)) W := ⟨(T0.b 0 rfl).c 0 rfl, (T0.b 0 rfl).c 1 rfl, (T0.b 0 rfl).c 2 rfl, (T0.b 0 rfl).c 3 rfl, (T0.b 1 rfl).c 0 rfl, (T0.b 1 rfl).c 1 rfl, (T0.b 1 rfl).c 2 rfl, (T0.b 1 rfl).c 3 rfl, (T0.b 1 rfl).c 4 rfl, (T0.b 1 rfl).c 5 rfl⟩
set_option maxRecDepth 100000 in
set_option maxHeartbeats 2000000 in
theorem l4On_any (rs1 rs2 rs3 : Bool) (ro1 ro2 ro3 : Option Addr) (rn1 rc1 rn2 rc2 rn3 rc3 : Nat) (rd1 rd2 rd3 : List Int) (a b c d x y z : Int) (ha : -1000000 ≤ a ∧ a ≤ 1000000) (hb : -1000000 ≤ b ∧ b ≤ 1000000) (hc : -1000000 ≤ c ∧ c ≤ 1000000) (hd : -1000000 ≤ d ∧ d ≤ 1000000) (w : World) (Nr1 : IsNum w rs1 ro1 rn1 rc1 rd1 x 8) (Nr2 : IsNum w rs2 ro2 rn2 rc2 rd2 y 8) (Nr3 : IsNum w rs3 ro3 rn3 rc3 rd3 z 8) : Calls Tryz.prog 54 #[Sg a b c d, .agg #[.bool rs1, .slice ro1 rn1 rc1, .bool rs2, .slice ro2 rn2 rc2, .bool rs3, .slice ro3 rn3 rc3]] w (VP (.bool (btwS a b 1 c d 1 x y z)) w) := by
  have T0 : ArgsB w ((w.alloc (.cells #[.int .i64 a, .int .i64 b, .int .i64 c, .int .i64 d] 63)).alloc (.cells #[.bool rs1, .slice ro1 rn1 rc1, .bool rs2, .slice ro2 rn2 rc2, .bool rs3, .slice ro3 rn3 rc3] 58)) [[.int .i64 a, .int .i64 b, .int .i64 c, .int .i64 d], [.bool rs1, .slice ro1 rn1 rc1, .bool rs2, .slice ro2 rn2 rc2, .bool rs3, .slice ro3 rn3 rc3]] := ar2 _ _ _ _ w
  have F1 := l3Spot_det a b ha hb
  have F2 := l3Spot_det c d hc hd
  have hBw : Below w.heap.size w ((w.alloc (.cells #[.int .i64 a, .int .i64 b, .int .i64 c, .int .i64 d] 63)).alloc (.cells #[.bool rs1, .slice ro1 rn1 rc1, .bool rs2, .slice ro2 rn2 rc2, .bool rs3, .slice ro3 rn3 rc3] 58)) := T0.below
  replace Nr1 := (Nr1.below hBw).drew; replace Nr2 := (Nr2.below hBw).drew; replace Nr3 := (Nr3.below hBw).drew
  clear ha hb hc hd hBw
  have tok1 : True := trivial
  go_enter Tryz.func54, Tryz.ntmps54
  go_upto_region 1 with fail
  generalize ((w.alloc (.cells #[.int .i64 a, .int .i64 b, .int .i64 c, .int .i64 d] 63)).alloc (.cells #[.bool rs1, .slice ro1 rn1 rc1, .bool rs2, .slice ro2 rn2 rc2, .bool rs3, .slice ro3 rn3 rc3] 58)) = W at *
  go_region_held3 (fun w' => w'.cell? ⟨w.heap.size, 0, none⟩ = some (.int .i64 a) ∧ w'.cell? ⟨w.heap.size, 1, none⟩ = some (.int .i64 b) ∧ w'.cell? ⟨w.heap.size, 2, none⟩ = some (.int .i64 c) ∧ w'.cell? ⟨w.heap.size, 3, none⟩ = some (.int .i64 d) ∧ w'.cell? ⟨w.heap.size + 1, 0, none⟩ = some (.bool rs1) ∧ w'.cell? ⟨w.heap.size + 1, 1, none⟩ = some (.slice ro1 rn1 rc1) ∧ w'.cell? ⟨w.heap.size + 1, 2, none⟩ = some (.bool rs2) ∧ w'.cell? ⟨w.heap.size + 1, 3, none⟩ = some (.slice ro2 rn2 rc2) ∧ w'.cell? ⟨w.heap.size + 1, 4, none⟩ = some (.bool rs3) ∧ w'.cell? ⟨w.heap.size + 1, 5, none⟩ = some (.slice ro3 rn3 rc3)) (first | (with_reducible exact on_cells T0) | (with_reducible exact on_cells T0.drew))
    (first
      | (go_at_call 86; have _t := tok1; refine (F1 _).mono ?_; rintro e v1 ⟨ps1, po1, pn1, pc1, pd1, ps2, po2, pn2, pc2, pd2, ps3, po3, pn3, pc3, pd3, rfl, Np1, Np2, Np3, hB⟩; (first | (have T1 := T0.step hB) | (have T1 := T0.drew.step hB)); clear T0; have T0 := T1; clear T1; replace Nr1 := Nr1.below hB; replace Nr2 := Nr2.below hB; replace Nr3 := Nr3.below hB; clear hB tok1 _t)
      | (go_at_call 86; refine (F2 _).mono ?_; rintro e v2 ⟨qs1, qo1, qn1, qc1, qd1, qs2, qo2, qn2, qc2, qd2, qs3, qo3, qn3, qc3, qd3, rfl, Nq1, Nq2, Nq3, hB⟩; (first | (have T1 := T0.step hB) | (have T1 := T0.drew.step hB)); clear T0; have T0 := T1; clear T1; replace Nr1 := Nr1.below hB; replace Nr2 := Nr2.below hB; replace Nr3 := Nr3.below hB; replace Np1 := Np1.below hB; replace Np2 := Np2.below hB; replace Np3 := Np3.below hB; clear hB)
      | (go_at_call 85; refine (l3Between_any ps1 ps2 ps3 po1 po2 po3 pn1 pc1 pn2 pc2 pn3 pc3 qs1 qs2 qs3 qo1 qo2 qo3 qn1 qc1 qn2 qc2 qn3 qc3 rs1 rs2 rs3 ro1 ro2 ro3 rn1 rc1 rn2 rc2 rn3 rc3 pd1 pd2 pd3 qd1 qd2 qd3 rd1 rd2 rd3 a b 1 c d 1 x y z 8 (by omega) _ Np1 Np2 Np3 Nq1 Nq2 Nq3 Nr1 Nr2 Nr3).mono ?_; rintro e v4 ⟨rfl, hB⟩; (first | (have T1 := T0.step hB) | (have T1 := T0.drew.step hB)); clear T0; have T0 := T1; clear T1; clear hB))
  all_goals have HB := T0.below
  all_goals clear T0
  all_goals go_wp2
  all_goals go_ret
  all_goals exact ⟨rfl, by first | exact HB | exact HB.drew⟩
end Go.Proofs.YtpmnmlhfaoajdaaGreat

/- Where a segment stands over a point: both sides. -/
namespace Go.Proofs.YtpmnmlhfaoajdaaGreat
open Go.RowKit
/-- Where a segment stands over a right point. -/
def overJ (a b c d x y z : Int) : Int :=
  if cmpI (x * 1) (a * z) < 0 then 2 else if cmpI (x * 1) (c * z) > 0 then 2
  else if a < c then -turnI a b 1 c d 1 x y z
  else if cmpI (y * 1) (b * z) < 0 then 1 else if cmpI (y * 1) (d * z) > 0 then -1 else 0
theorem cmpI_in (x y : Int) : cmpI x y = -1 ∨ cmpI x y = 0 ∨ cmpI x y = 1 := by unfold cmpI; split <;> (try split) <;> simp
set_option maxRecDepth 100000 in
set_option maxHeartbeats 2000000 in
theorem overAt_det (a b c d x y z : Int) (i1 : -1000000 ≤ a ∧ a ≤ 1000000) (i2 : -1000000 ≤ b ∧ b ≤ 1000000) (i3 : -1000000 ≤ c ∧ c ≤ 1000000) (i4 : -1000000 ≤ d ∧ d ≤ 1000000) (sx : small x = true) (sy : small y = true) (sz : small z = true) (w : World) : Calls Tryz.prog 30 #[Sg a b c d, PV x y z] w (VP (.int .i64 (overJ a b c d x y z)) w) := by
  have T0 : ArgsB w ((w.alloc (.cells #[.int .i64 a, .int .i64 b, .int .i64 c, .int .i64 d] 63)).alloc (.cells #[.int .u64 (ww3 x), .int .u64 (ww2 x), .int .u64 (ww1 x), .int .u64 (ww0 x), .int .u64 (ww3 y), .int .u64 (ww2 y), .int .u64 (ww1 y), .int .u64 (ww0 y), .int .u64 (ww3 z), .int .u64 (ww2 z), .int .u64 (ww1 z), .int .u64 (ww0 z)] 35)) [[.int .i64 a, .int .i64 b, .int .i64 c, .int .i64 d], [.int .u64 (ww3 x), .int .u64 (ww2 x), .int .u64 (ww1 x), .int .u64 (ww0 x), .int .u64 (ww3 y), .int .u64 (ww2 y), .int .u64 (ww1 y), .int .u64 (ww0 y), .int .u64 (ww3 z), .int .u64 (ww2 z), .int .u64 (ww1 z), .int .u64 (ww0 z)]] := ar2 _ _ _ _ w
  have sa : small a = true := small_int (by omega) (by omega)
  have sb : small b = true := small_int (by omega) (by omega)
  have sc : small c = true := small_int (by omega) (by omega)
  have sd : small d = true := small_int (by omega) (by omega)
  have s1 : small 1 = true := by decide
  have EN := fun w => ends_det a b c d (by omega) (by omega) (by omega) (by omega) (by omega) (by omega) (by omega) (by omega) w
  have C1 := byX_det x y z a b 1 sx sz sa s1
  have C2 := byX_det x y z c d 1 sx sz sc s1
  have C3 := turn_det a b 1 c d 1 x y z sa sb s1 sc sd s1 sx sy sz
  rw [turn_same] at C3
  have C4 := byY_det x y z a b 1 sy sz sb s1
  have C5 := byY_det x y z c d 1 sy sz sd s1
  have o3in := cmpI_in
  have HJ : Hid (overJ a b c d x y z = if cmpI (x * 1) (a * z) < 0 then 2 else if cmpI (x * 1) (c * z) > 0 then 2 else if a < c then -turnI a b 1 c d 1 x y z else if cmpI (y * 1) (b * z) < 0 then 1 else if cmpI (y * 1) (d * z) > 0 then -1 else 0) := rfl
  have H3 : turnI a b 1 c d 1 x y z = -1 ∨ turnI a b 1 c d 1 x y z = 0 ∨ turnI a b 1 c d 1 x y z = 1 := cmpI_in _ _
  generalize overJ a b c d x y z = J at *
  generalize cmpI (x * 1) (a * z) = o1 at *
  generalize cmpI (x * 1) (c * z) = o2 at *
  generalize turnI a b 1 c d 1 x y z = o3 at *
  generalize cmpI (y * 1) (b * z) = o4 at *
  generalize cmpI (y * 1) (d * z) = o5 at *
  clear i1 i2 i3 i4 sx sy sz sa sb sc sd s1 o3in
  go_enter Tryz.func30, Tryz.ntmps30
  go_wp2_with fail
  generalize ((w.alloc (.cells #[.int .i64 a, .int .i64 b, .int .i64 c, .int .i64 d] 63)).alloc (.cells #[.int .u64 (ww3 x), .int .u64 (ww2 x), .int .u64 (ww1 x), .int .u64 (ww0 x), .int .u64 (ww3 y), .int .u64 (ww2 y), .int .u64 (ww1 y), .int .u64 (ww0 y), .int .u64 (ww3 z), .int .u64 (ww2 z), .int .u64 (ww1 z), .int .u64 (ww0 z)] 35)) = W at *
  refine (EN _).mono ?_
  rintro e w1 ⟨rfl, hB⟩
  replace T0 := T0.step hB
  clear hB EN
  have X1 := (Blk.new w1 [.int .u64 (ww3 a), .int .u64 (ww2 a), .int .u64 (ww1 a), .int .u64 (ww0 a), .int .u64 (ww3 b), .int .u64 (ww2 b), .int .u64 (ww1 b), .int .u64 (ww0 b), .int .u64 (ww3 1), .int .u64 (ww2 1), .int .u64 (ww1 1), .int .u64 (ww0 1)] 35 rfl).alloc (.cells #[.int .u64 (ww3 c), .int .u64 (ww2 c), .int .u64 (ww1 c), .int .u64 (ww0 c), .int .u64 (ww3 d), .int .u64 (ww2 d), .int .u64 (ww1 d), .int .u64 (ww0 d), .int .u64 (ww3 1), .int .u64 (ww2 1), .int .u64 (ww1 1), .int .u64 (ww0 1)] 35)
  have X2 := Blk.new (w1.alloc (.cells #[.int .u64 (ww3 a), .int .u64 (ww2 a), .int .u64 (ww1 a), .int .u64 (ww0 a), .int .u64 (ww3 b), .int .u64 (ww2 b), .int .u64 (ww1 b), .int .u64 (ww0 b), .int .u64 (ww3 1), .int .u64 (ww2 1), .int .u64 (ww1 1), .int .u64 (ww0 1)] 35)) [.int .u64 (ww3 c), .int .u64 (ww2 c), .int .u64 (ww1 c), .int .u64 (ww0 c), .int .u64 (ww3 d), .int .u64 (ww2 d), .int .u64 (ww1 d), .int .u64 (ww0 d), .int .u64 (ww3 1), .int .u64 (ww2 1), .int .u64 (ww1 1), .int .u64 (ww0 1)] 35 rfl
  have x2e : (w1.alloc (.cells #[.int .u64 (ww3 a), .int .u64 (ww2 a), .int .u64 (ww1 a), .int .u64 (ww0 a), .int .u64 (ww3 b), .int .u64 (ww2 b), .int .u64 (ww1 b), .int .u64 (ww0 b), .int .u64 (ww3 1), .int .u64 (ww2 1), .int .u64 (ww1 1), .int .u64 (ww0 1)] 35)).heap.size = w1.heap.size + 1 := by simp
  rw [x2e] at X2
  clear x2e
  replace T0 := (T0.alloc (.cells #[.int .u64 (ww3 a), .int .u64 (ww2 a), .int .u64 (ww1 a), .int .u64 (ww0 a), .int .u64 (ww3 b), .int .u64 (ww2 b), .int .u64 (ww1 b), .int .u64 (ww0 b), .int .u64 (ww3 1), .int .u64 (ww2 1), .int .u64 (ww1 1), .int .u64 (ww0 1)] 35)).alloc (.cells #[.int .u64 (ww3 c), .int .u64 (ww2 c), .int .u64 (ww1 c), .int .u64 (ww0 c), .int .u64 (ww3 d), .int .u64 (ww2 d), .int .u64 (ww1 d), .int .u64 (ww0 d), .int .u64 (ww3 1), .int .u64 (ww2 1), .int .u64 (ww1 1), .int .u64 (ww0 1)] 35)
  have Y0 : Blk _ (w.heap.size + 1) _ := T0.b 1 rfl; have q0 := Y0.c 0 rfl; have k0 := X1.c 0 rfl; have l0 := X2.c 0 rfl; have q1 := Y0.c 1 rfl; have k1 := X1.c 1 rfl; have l1 := X2.c 1 rfl; have q2 := Y0.c 2 rfl; have k2 := X1.c 2 rfl; have l2 := X2.c 2 rfl; have q3 := Y0.c 3 rfl; have k3 := X1.c 3 rfl; have l3 := X2.c 3 rfl; have q4 := Y0.c 4 rfl; have k4 := X1.c 4 rfl; have l4 := X2.c 4 rfl; have q5 := Y0.c 5 rfl; have k5 := X1.c 5 rfl; have l5 := X2.c 5 rfl; have q6 := Y0.c 6 rfl; have k6 := X1.c 6 rfl; have l6 := X2.c 6 rfl; have q7 := Y0.c 7 rfl; have k7 := X1.c 7 rfl; have l7 := X2.c 7 rfl; have q8 := Y0.c 8 rfl; have k8 := X1.c 8 rfl; have l8 := X2.c 8 rfl; have q9 := Y0.c 9 rfl; have k9 := X1.c 9 rfl; have l9 := X2.c 9 rfl; have q10 := Y0.c 10 rfl; have k10 := X1.c 10 rfl; have l10 := X2.c 10 rfl; have q11 := Y0.c 11 rfl; have k11 := X1.c 11 rfl; have l11 := X2.c 11 rfl; have ql := Y0.lt; clear Y0
  go_wp2_with fail
  generalize ((w1.alloc (.cells #[.int .u64 (ww3 a), .int .u64 (ww2 a), .int .u64 (ww1 a), .int .u64 (ww0 a), .int .u64 (ww3 b), .int .u64 (ww2 b), .int .u64 (ww1 b), .int .u64 (ww0 b), .int .u64 (ww3 1), .int .u64 (ww2 1), .int .u64 (ww1 1), .int .u64 (ww0 1)] 35)).alloc (.cells #[.int .u64 (ww3 c), .int .u64 (ww2 c), .int .u64 (ww1 c), .int .u64 (ww0 c), .int .u64 (ww3 d), .int .u64 (ww2 d), .int .u64 (ww1 d), .int .u64 (ww0 d), .int .u64 (ww3 1), .int .u64 (ww2 1), .int .u64 (ww1 1), .int .u64 (ww0 1)] 35)) = W1 at *
  generalize w1.heap.size = g1 at *
  refine (C1 _).mono ?_
  rintro e w2 ⟨rfl, hB⟩
  replace T0 := T0.step hB; replace X1 := X1.step hB; replace X2 := X2.step hB
  clear hB C1 q0 k0 l0 q1 k1 l1 q2 k2 l2 q3 k3 l3 q4 k4 l4 q5 k5 l5 q6 k6 l6 q7 k7 l7 q8 k8 l8 q9 k9 l9 q10 k10 l10 q11 k11 l11 ql
  by_cases h1 : o1 < 0
  · have HO : Hid (J = 2) := by show _ = _; rw [HJ.out, if_pos (show o1 < 0 by omega)]
    have HB := T0.below
    clear T0 X1 X2 
    go_wp2
    go_ret
    exact ⟨by rw [HO.out]; rfl, HB⟩
  · have K1 : Hid (¬ o1 < 0) := h1
    have Y0 : Blk _ (w.heap.size + 1) _ := T0.b 1 rfl; have q0 := Y0.c 0 rfl; have k0 := X1.c 0 rfl; have l0 := X2.c 0 rfl; have q1 := Y0.c 1 rfl; have k1 := X1.c 1 rfl; have l1 := X2.c 1 rfl; have q2 := Y0.c 2 rfl; have k2 := X1.c 2 rfl; have l2 := X2.c 2 rfl; have q3 := Y0.c 3 rfl; have k3 := X1.c 3 rfl; have l3 := X2.c 3 rfl; have q4 := Y0.c 4 rfl; have k4 := X1.c 4 rfl; have l4 := X2.c 4 rfl; have q5 := Y0.c 5 rfl; have k5 := X1.c 5 rfl; have l5 := X2.c 5 rfl; have q6 := Y0.c 6 rfl; have k6 := X1.c 6 rfl; have l6 := X2.c 6 rfl; have q7 := Y0.c 7 rfl; have k7 := X1.c 7 rfl; have l7 := X2.c 7 rfl; have q8 := Y0.c 8 rfl; have k8 := X1.c 8 rfl; have l8 := X2.c 8 rfl; have q9 := Y0.c 9 rfl; have k9 := X1.c 9 rfl; have l9 := X2.c 9 rfl; have q10 := Y0.c 10 rfl; have k10 := X1.c 10 rfl; have l10 := X2.c 10 rfl; have q11 := Y0.c 11 rfl; have k11 := X1.c 11 rfl; have l11 := X2.c 11 rfl; have ql := Y0.lt; clear Y0
    go_wp2_with fail
    refine (C2 _).mono ?_
    rintro e w3 ⟨rfl, hB⟩
    replace T0 := T0.step hB; replace X1 := X1.step hB; replace X2 := X2.step hB
    clear hB q0 k0 l0 q1 k1 l1 q2 k2 l2 q3 k3 l3 q4 k4 l4 q5 k5 l5 q6 k6 l6 q7 k7 l7 q8 k8 l8 q9 k9 l9 q10 k10 l10 q11 k11 l11 ql
    by_cases h2 : o2 > 0
    · have HO : Hid (J = 2) := by show _ = _; rw [HJ.out, if_neg (show ¬ o1 < 0 by have := K1.out; omega), if_pos (show o2 > 0 by omega)]
      have HB := T0.below
      clear T0 X1 X2 
      go_wp2
      go_ret
      exact ⟨by rw [HO.out]; rfl, HB⟩
    · have K2 : Hid (¬ o2 > 0) := h2
      have Y1 : Blk _ w.heap.size _ := T0.b 0 rfl; obtain ⟨g0, g1, g2, g3⟩ := Y1.cs4; clear Y1
      by_cases h3 : a < c
      · have HO : Hid (J = -o3) := by show _ = _; rw [HJ.out, if_neg (show ¬ o1 < 0 by have := K1.out; omega), if_neg (show ¬ o2 > 0 by have := K2.out; omega), if_pos (show a < c by omega)]
        have Y0 : Blk _ (w.heap.size + 1) _ := T0.b 1 rfl; have q0 := Y0.c 0 rfl; have k0 := X1.c 0 rfl; have l0 := X2.c 0 rfl; have q1 := Y0.c 1 rfl; have k1 := X1.c 1 rfl; have l1 := X2.c 1 rfl; have q2 := Y0.c 2 rfl; have k2 := X1.c 2 rfl; have l2 := X2.c 2 rfl; have q3 := Y0.c 3 rfl; have k3 := X1.c 3 rfl; have l3 := X2.c 3 rfl; have q4 := Y0.c 4 rfl; have k4 := X1.c 4 rfl; have l4 := X2.c 4 rfl; have q5 := Y0.c 5 rfl; have k5 := X1.c 5 rfl; have l5 := X2.c 5 rfl; have q6 := Y0.c 6 rfl; have k6 := X1.c 6 rfl; have l6 := X2.c 6 rfl; have q7 := Y0.c 7 rfl; have k7 := X1.c 7 rfl; have l7 := X2.c 7 rfl; have q8 := Y0.c 8 rfl; have k8 := X1.c 8 rfl; have l8 := X2.c 8 rfl; have q9 := Y0.c 9 rfl; have k9 := X1.c 9 rfl; have l9 := X2.c 9 rfl; have q10 := Y0.c 10 rfl; have k10 := X1.c 10 rfl; have l10 := X2.c 10 rfl; have q11 := Y0.c 11 rfl; have k11 := X1.c 11 rfl; have l11 := X2.c 11 rfl; have ql := Y0.lt; clear Y0
        go_wp2_with fail
        refine (C3 _).mono ?_
        rintro e w4 ⟨rfl, hB⟩
        replace T0 := T0.step hB; replace X1 := X1.step hB; replace X2 := X2.step hB
        clear hB q0 k0 l0 q1 k1 l1 q2 k2 l2 q3 k3 l3 q4 k4 l4 q5 k5 l5 q6 k6 l6 q7 k7 l7 q8 k8 l8 q9 k9 l9 q10 k10 l10 q11 k11 l11 ql
        have n1 : -1 ≤ o3 := by omega
        have n2 : o3 ≤ 1 := by omega
        have HB := T0.below
        clear T0 X1 X2 g0 g1 g2 g3
        go_wp2
        go_ret
        exact ⟨by rw [HO.out]; rfl, HB⟩
      · have K3 : Hid (¬ a < c) := h3
        have Y0 : Blk _ (w.heap.size + 1) _ := T0.b 1 rfl; have q0 := Y0.c 0 rfl; have k0 := X1.c 0 rfl; have l0 := X2.c 0 rfl; have q1 := Y0.c 1 rfl; have k1 := X1.c 1 rfl; have l1 := X2.c 1 rfl; have q2 := Y0.c 2 rfl; have k2 := X1.c 2 rfl; have l2 := X2.c 2 rfl; have q3 := Y0.c 3 rfl; have k3 := X1.c 3 rfl; have l3 := X2.c 3 rfl; have q4 := Y0.c 4 rfl; have k4 := X1.c 4 rfl; have l4 := X2.c 4 rfl; have q5 := Y0.c 5 rfl; have k5 := X1.c 5 rfl; have l5 := X2.c 5 rfl; have q6 := Y0.c 6 rfl; have k6 := X1.c 6 rfl; have l6 := X2.c 6 rfl; have q7 := Y0.c 7 rfl; have k7 := X1.c 7 rfl; have l7 := X2.c 7 rfl; have q8 := Y0.c 8 rfl; have k8 := X1.c 8 rfl; have l8 := X2.c 8 rfl; have q9 := Y0.c 9 rfl; have k9 := X1.c 9 rfl; have l9 := X2.c 9 rfl; have q10 := Y0.c 10 rfl; have k10 := X1.c 10 rfl; have l10 := X2.c 10 rfl; have q11 := Y0.c 11 rfl; have k11 := X1.c 11 rfl; have l11 := X2.c 11 rfl; have ql := Y0.lt; clear Y0
        go_wp2_with fail
        refine (C4 _).mono ?_
        rintro e w4 ⟨rfl, hB⟩
        replace T0 := T0.step hB; replace X1 := X1.step hB; replace X2 := X2.step hB
        clear hB q0 k0 l0 q1 k1 l1 q2 k2 l2 q3 k3 l3 q4 k4 l4 q5 k5 l5 q6 k6 l6 q7 k7 l7 q8 k8 l8 q9 k9 l9 q10 k10 l10 q11 k11 l11 ql
        by_cases h4 : o4 < 0
        · have HO : Hid (J = 1) := by show _ = _; rw [HJ.out, if_neg (show ¬ o1 < 0 by have := K1.out; omega), if_neg (show ¬ o2 > 0 by have := K2.out; omega), if_neg (show ¬ a < c by have := K3.out; omega), if_pos (show o4 < 0 by omega)]
          have HB := T0.below
          clear T0 X1 X2 
          go_wp2
          go_ret
          exact ⟨by rw [HO.out]; rfl, HB⟩
        · have K4 : Hid (¬ o4 < 0) := h4
          have Y0 : Blk _ (w.heap.size + 1) _ := T0.b 1 rfl; have q0 := Y0.c 0 rfl; have k0 := X1.c 0 rfl; have l0 := X2.c 0 rfl; have q1 := Y0.c 1 rfl; have k1 := X1.c 1 rfl; have l1 := X2.c 1 rfl; have q2 := Y0.c 2 rfl; have k2 := X1.c 2 rfl; have l2 := X2.c 2 rfl; have q3 := Y0.c 3 rfl; have k3 := X1.c 3 rfl; have l3 := X2.c 3 rfl; have q4 := Y0.c 4 rfl; have k4 := X1.c 4 rfl; have l4 := X2.c 4 rfl; have q5 := Y0.c 5 rfl; have k5 := X1.c 5 rfl; have l5 := X2.c 5 rfl; have q6 := Y0.c 6 rfl; have k6 := X1.c 6 rfl; have l6 := X2.c 6 rfl; have q7 := Y0.c 7 rfl; have k7 := X1.c 7 rfl; have l7 := X2.c 7 rfl; have q8 := Y0.c 8 rfl; have k8 := X1.c 8 rfl; have l8 := X2.c 8 rfl; have q9 := Y0.c 9 rfl; have k9 := X1.c 9 rfl; have l9 := X2.c 9 rfl; have q10 := Y0.c 10 rfl; have k10 := X1.c 10 rfl; have l10 := X2.c 10 rfl; have q11 := Y0.c 11 rfl; have k11 := X1.c 11 rfl; have l11 := X2.c 11 rfl; have ql := Y0.lt; clear Y0
          go_wp2_with fail
          refine (C5 _).mono ?_
          rintro e w5 ⟨rfl, hB⟩
          replace T0 := T0.step hB; replace X1 := X1.step hB; replace X2 := X2.step hB
          clear hB q0 k0 l0 q1 k1 l1 q2 k2 l2 q3 k3 l3 q4 k4 l4 q5 k5 l5 q6 k6 l6 q7 k7 l7 q8 k8 l8 q9 k9 l9 q10 k10 l10 q11 k11 l11 ql
          by_cases h5 : o5 > 0
          · have HO : Hid (J = -1) := by show _ = _; rw [HJ.out, if_neg (show ¬ o1 < 0 by have := K1.out; omega), if_neg (show ¬ o2 > 0 by have := K2.out; omega), if_neg (show ¬ a < c by have := K3.out; omega), if_neg (show ¬ o4 < 0 by have := K4.out; omega), if_pos (show o5 > 0 by omega)]
            have HB := T0.below
            clear T0 X1 X2 
            go_wp2
            go_ret
            exact ⟨by rw [HO.out]; rfl, HB⟩
          · have K5 : Hid (¬ o5 > 0) := h5
            have HO : Hid (J = 0) := by show _ = _; rw [HJ.out, if_neg (show ¬ o1 < 0 by have := K1.out; omega), if_neg (show ¬ o2 > 0 by have := K2.out; omega), if_neg (show ¬ a < c by have := K3.out; omega), if_neg (show ¬ o4 < 0 by have := K4.out; omega), if_neg (show ¬ o5 > 0 by have := K5.out; omega)]
            have HB := T0.below
            clear T0 X1 X2 
            go_wp2
            go_ret
            exact ⟨by rw [HO.out]; rfl, HB⟩
end Go.Proofs.YtpmnmlhfaoajdaaGreat

/- Where a segment stands over a point: the model's side. -/
namespace Go.Proofs.YtpmnmlhfaoajdaaGreat
open Go.RowKit
end Go.Proofs.YtpmnmlhfaoajdaaGreat
