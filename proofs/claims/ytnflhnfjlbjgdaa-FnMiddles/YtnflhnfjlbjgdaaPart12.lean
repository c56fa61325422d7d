/- Part 12 of the walks that the proof leans on. -/
import Derived.Test.YtnflhnfjlbjgdaaPart11
import Derived.Test.YtnflhnfjlbjgdaaPart3
/- A spot as a point: the walks of the model's point, of the program's, and of the law. -/
namespace Go.Proofs.Ytnflhnfjlbjgdaa
open Go.RowKit
theorem small_int {x : Int} (h0 : -9223372036854775808 ≤ x) (h1 : x ≤ 9223372036854775807) : small x = true := by
  unfold small
  apply decide_eq_true
  omega
set_option maxRecDepth 100000 in
set_option maxHeartbeats 2000000 in
theorem specPointOf_any (x y : Int) (hx0 : -9223372036854775808 ≤ x) (hx1 : x ≤ 9223372036854775807) (hy0 : -9223372036854775808 ≤ y) (hy1 : y ≤ 9223372036854775807) (w : World) :
    Calls Try.prog 58 #[.agg #[.int .i64 x, .int .i64 y]] w (VP (.agg #[.int .u64 (ww3 x), .int .u64 (ww2 x), .int .u64 (ww1 x), .int .u64 (ww0 x), .int .u64 (ww3 y), .int .u64 (ww2 y), .int .u64 (ww1 y), .int .u64 (ww0 y), .int .u64 (ww3 1), .int .u64 (ww2 1), .int .u64 (ww1 1), .int .u64 (ww0 1)]) w) := by
  have B1 := Blk.new (w.alloc (.cells #[.int .i64 x, .int .i64 y] 91)) [.int .u64 0, .int .u64 0, .int .u64 0, .int .u64 0, .int .u64 0, .int .u64 0, .int .u64 0, .int .u64 0, .int .u64 0, .int .u64 0, .int .u64 0, .int .u64 0] 28 (g := w.heap.size + 1) (by simp)
  have HB0 : Below w.heap.size w ((w.alloc (.cells #[.int .i64 x, .int .i64 y] 91)).alloc (.cells #[.int .u64 0, .int .u64 0, .int .u64 0, .int .u64 0, .int .u64 0, .int .u64 0, .int .u64 0, .int .u64 0, .int .u64 0, .int .u64 0, .int .u64 0, .int .u64 0] 28)) := ((Below.refl _ _).alloc (Nat.le_refl _) _).alloc (by simp) _
  go_enter Try.func58, Try.ntmps58
  go_wp2_with fail
  refine (l3Spot_any x y hx0 hx1 hy0 hy1 _).mono ?_
  rintro e w1 ⟨s1, o1, n1, c1, d1, s2, o2, n2, c2, d2, s3, o3, n3, c3, d3, rfl, N1, N2, N3, hB⟩
  replace B1 := B1.step hB
  have HB1 : Below w.heap.size w w1 := HB0.trans (hB.mono HB0.size)
  clear hB HB0
  go_wp2_with fail
  refine (l3Point_small s1 o1 n1 c1 d1 s2 o2 n2 c2 d2 s3 o3 n3 c3 d3 x y 1 2 (by omega) (small_int hx0 hx1) (small_int hy0 hy1) (by decide) _ N1 N2 N3).mono ?_
  rintro e w2 ⟨rfl, hB⟩
  replace B1 := B1.step hB
  have HB2 : Below w.heap.size w w2 := HB1.trans (hB.mono HB1.size)
  clear hB HB1 N1 N2 N3
  have F : Blk (((((((((((((w2.setCell ⟨w.heap.size + 1, 0, none⟩ (.int .u64 (ww3 x))).setCell ⟨w.heap.size + 1, 1, none⟩ (.int .u64 (ww2 x))).setCell ⟨w.heap.size + 1, 2, none⟩ (.int .u64 (ww1 x))).setCell ⟨w.heap.size + 1, 3, none⟩ (.int .u64 (ww0 x))).setCell ⟨w.heap.size + 1, 4, none⟩ (.int .u64 (ww3 y))).setCell ⟨w.heap.size + 1, 5, none⟩ (.int .u64 (ww2 y))).setCell ⟨w.heap.size + 1, 6, none⟩ (.int .u64 (ww1 y))).setCell ⟨w.heap.size + 1, 7, none⟩ (.int .u64 (ww0 y))).setCell ⟨w.heap.size + 1, 8, none⟩ (.int .u64 (ww3 1))).setCell ⟨w.heap.size + 1, 9, none⟩ (.int .u64 (ww2 1))).setCell ⟨w.heap.size + 1, 10, none⟩ (.int .u64 (ww1 1))).setCell ⟨w.heap.size + 1, 11, none⟩ (.int .u64 (ww0 1))).alloc (.cells #[.int .u64 (ww3 x), .int .u64 (ww2 x), .int .u64 (ww1 x), .int .u64 (ww0 x), .int .u64 (ww3 y), .int .u64 (ww2 y), .int .u64 (ww1 y), .int .u64 (ww0 y), .int .u64 (ww3 1), .int .u64 (ww2 1), .int .u64 (ww1 1), .int .u64 (ww0 1)] 28)) (w.heap.size + 1) [.int .u64 (ww3 x), .int .u64 (ww2 x), .int .u64 (ww1 x), .int .u64 (ww0 x), .int .u64 (ww3 y), .int .u64 (ww2 y), .int .u64 (ww1 y), .int .u64 (ww0 y), .int .u64 (ww3 1), .int .u64 (ww2 1), .int .u64 (ww1 1), .int .u64 (ww0 1)] := ((((((((((((((B1.setI 0 (by simp) (.int .u64 (ww3 x))).setI 1 (by simp) (.int .u64 (ww2 x))).setI 2 (by simp) (.int .u64 (ww1 x))).setI 3 (by simp) (.int .u64 (ww0 x))).setI 4 (by simp) (.int .u64 (ww3 y))).setI 5 (by simp) (.int .u64 (ww2 y))).setI 6 (by simp) (.int .u64 (ww1 y))).setI 7 (by simp) (.int .u64 (ww0 y))).setI 8 (by simp) (.int .u64 (ww3 1))).setI 9 (by simp) (.int .u64 (ww2 1))).setI 10 (by simp) (.int .u64 (ww1 1))).setI 11 (by simp) (.int .u64 (ww0 1)))).alloc _)
  have HBF : Below w.heap.size w (((((((((((((w2.setCell ⟨w.heap.size + 1, 0, none⟩ (.int .u64 (ww3 x))).setCell ⟨w.heap.size + 1, 1, none⟩ (.int .u64 (ww2 x))).setCell ⟨w.heap.size + 1, 2, none⟩ (.int .u64 (ww1 x))).setCell ⟨w.heap.size + 1, 3, none⟩ (.int .u64 (ww0 x))).setCell ⟨w.heap.size + 1, 4, none⟩ (.int .u64 (ww3 y))).setCell ⟨w.heap.size + 1, 5, none⟩ (.int .u64 (ww2 y))).setCell ⟨w.heap.size + 1, 6, none⟩ (.int .u64 (ww1 y))).setCell ⟨w.heap.size + 1, 7, none⟩ (.int .u64 (ww0 y))).setCell ⟨w.heap.size + 1, 8, none⟩ (.int .u64 (ww3 1))).setCell ⟨w.heap.size + 1, 9, none⟩ (.int .u64 (ww2 1))).setCell ⟨w.heap.size + 1, 10, none⟩ (.int .u64 (ww1 1))).setCell ⟨w.heap.size + 1, 11, none⟩ (.int .u64 (ww0 1))).alloc (.cells #[.int .u64 (ww3 x), .int .u64 (ww2 x), .int .u64 (ww1 x), .int .u64 (ww0 x), .int .u64 (ww3 y), .int .u64 (ww2 y), .int .u64 (ww1 y), .int .u64 (ww0 y), .int .u64 (ww3 1), .int .u64 (ww2 1), .int .u64 (ww1 1), .int .u64 (ww0 1)] 28)) := (by refine Below.alloc ?_ (by have := HB2.size; simpa [World.setCell] using this) _; exact ((((((((((((HB2.setCell (p := ⟨w.heap.size + 1, 0, none⟩) (by simp) (.int .u64 (ww3 x))).setCell (p := ⟨w.heap.size + 1, 1, none⟩) (by simp) (.int .u64 (ww2 x))).setCell (p := ⟨w.heap.size + 1, 2, none⟩) (by simp) (.int .u64 (ww1 x))).setCell (p := ⟨w.heap.size + 1, 3, none⟩) (by simp) (.int .u64 (ww0 x))).setCell (p := ⟨w.heap.size + 1, 4, none⟩) (by simp) (.int .u64 (ww3 y))).setCell (p := ⟨w.heap.size + 1, 5, none⟩) (by simp) (.int .u64 (ww2 y))).setCell (p := ⟨w.heap.size + 1, 6, none⟩) (by simp) (.int .u64 (ww1 y))).setCell (p := ⟨w.heap.size + 1, 7, none⟩) (by simp) (.int .u64 (ww0 y))).setCell (p := ⟨w.heap.size + 1, 8, none⟩) (by simp) (.int .u64 (ww3 1))).setCell (p := ⟨w.heap.size + 1, 9, none⟩) (by simp) (.int .u64 (ww2 1))).setCell (p := ⟨w.heap.size + 1, 10, none⟩) (by simp) (.int .u64 (ww1 1))).setCell (p := ⟨w.heap.size + 1, 11, none⟩) (by simp) (.int .u64 (ww0 1))))
  have tc0 := B1.c 0 rfl; have tf0 := B1.f 0 rfl; have tc1 := B1.c 1 rfl; have tf1 := B1.f 1 rfl; have tc2 := B1.c 2 rfl; have tf2 := B1.f 2 rfl; have tc3 := B1.c 3 rfl; have tf3 := B1.f 3 rfl; have tc4 := B1.c 4 rfl; have tf4 := B1.f 4 rfl; have tc5 := B1.c 5 rfl; have tf5 := B1.f 5 rfl; have tc6 := B1.c 6 rfl; have tf6 := B1.f 6 rfl; have tc7 := B1.c 7 rfl; have tf7 := B1.f 7 rfl; have tc8 := B1.c 8 rfl; have tf8 := B1.f 8 rfl; have tc9 := B1.c 9 rfl; have tf9 := B1.f 9 rfl; have tc10 := B1.c 10 rfl; have tf10 := B1.f 10 rfl; have tc11 := B1.c 11 rfl; have tf11 := B1.f 11 rfl; have tl := B1.lt
  clear B1 HB2
  go_wp2
  generalize (((((((((((((w2.setCell ⟨w.heap.size + 1, 0, none⟩ (.int .u64 (ww3 x))).setCell ⟨w.heap.size + 1, 1, none⟩ (.int .u64 (ww2 x))).setCell ⟨w.heap.size + 1, 2, none⟩ (.int .u64 (ww1 x))).setCell ⟨w.heap.size + 1, 3, none⟩ (.int .u64 (ww0 x))).setCell ⟨w.heap.size + 1, 4, none⟩ (.int .u64 (ww3 y))).setCell ⟨w.heap.size + 1, 5, none⟩ (.int .u64 (ww2 y))).setCell ⟨w.heap.size + 1, 6, none⟩ (.int .u64 (ww1 y))).setCell ⟨w.heap.size + 1, 7, none⟩ (.int .u64 (ww0 y))).setCell ⟨w.heap.size + 1, 8, none⟩ (.int .u64 (ww3 1))).setCell ⟨w.heap.size + 1, 9, none⟩ (.int .u64 (ww2 1))).setCell ⟨w.heap.size + 1, 10, none⟩ (.int .u64 (ww1 1))).setCell ⟨w.heap.size + 1, 11, none⟩ (.int .u64 (ww0 1))).alloc (.cells #[.int .u64 (ww3 x), .int .u64 (ww2 x), .int .u64 (ww1 x), .int .u64 (ww0 x), .int .u64 (ww3 y), .int .u64 (ww2 y), .int .u64 (ww1 y), .int .u64 (ww0 y), .int .u64 (ww3 1), .int .u64 (ww2 1), .int .u64 (ww1 1), .int .u64 (ww0 1)] 28)) = WF at *
  have u0 := F.c 0 rfl; have u1 := F.c 1 rfl; have u2 := F.c 2 rfl; have u3 := F.c 3 rfl; have u4 := F.c 4 rfl; have u5 := F.c 5 rfl; have u6 := F.c 6 rfl; have u7 := F.c 7 rfl; have u8 := F.c 8 rfl; have u9 := F.c 9 rfl; have u10 := F.c 10 rfl; have u11 := F.c 11 rfl
  refine bodyPost_ret (v := .agg #[.int .u64 (ww3 x), .int .u64 (ww2 x), .int .u64 (ww1 x), .int .u64 (ww0 x), .int .u64 (ww3 y), .int .u64 (ww2 y), .int .u64 (ww1 y), .int .u64 (ww0 y), .int .u64 (ww3 1), .int .u64 (ww2 1), .int .u64 (ww1 1), .int .u64 (ww0 1)]) (by simp [results, Try.results58, go_sem, u0, u1, u2, u3, u4, u5, u6, u7, u8, u9, u10, u11]) rfl ?_
  exact ⟨rfl, HBF⟩
end Go.Proofs.Ytnflhnfjlbjgdaa

/- Spots and segments beside points: the walks of their rightness, by the model and by the program. -/
namespace Go.Proofs.Ytnflhnfjlbjgdaa
open Go.RowKit
/-- Four cells of a block, to be written. -/
structure Quad (W : World) (g : Nat) (v0 v1 v2 v3 : Value) : Prop where
  c0 : W.cell? ⟨g, 0, none⟩ = some v0
  c1 : W.cell? ⟨g, 1, none⟩ = some v1
  c2 : W.cell? ⟨g, 2, none⟩ = some v2
  c3 : W.cell? ⟨g, 3, none⟩ = some v3
  f0 : W.frozen? ⟨g, 0, none⟩ = false
  f1 : W.frozen? ⟨g, 1, none⟩ = false
  f2 : W.frozen? ⟨g, 2, none⟩ = false
  f3 : W.frozen? ⟨g, 3, none⟩ = false
  lt : g < W.heap.size
theorem Quad.below {W W' : World} {B g : Nat} {v0 v1 v2 v3 : Value} (h : Quad W g v0 v1 v2 v3) (hB : Below B W W') (hg : g < B) : Quad W' g v0 v1 v2 v3 :=
  ⟨(hB.cell (p := ⟨g, 0, none⟩) hg).trans h.c0, (hB.cell (p := ⟨g, 1, none⟩) hg).trans h.c1, (hB.cell (p := ⟨g, 2, none⟩) hg).trans h.c2, (hB.cell (p := ⟨g, 3, none⟩) hg).trans h.c3,
   (hB.frozen (p := ⟨g, 0, none⟩) hg).trans h.f0, (hB.frozen (p := ⟨g, 1, none⟩) hg).trans h.f1, (hB.frozen (p := ⟨g, 2, none⟩) hg).trans h.f2, (hB.frozen (p := ⟨g, 3, none⟩) hg).trans h.f3, Nat.lt_of_lt_of_le h.lt hB.size⟩
theorem Quad.alloc {W : World} {g : Nat} {v0 v1 v2 v3 : Value} (h : Quad W g v0 v1 v2 v3) (o : Obj) : Quad (W.alloc o) g v0 v1 v2 v3 := h.below ((Below.refl W.heap.size W).alloc (Nat.le_refl _) o) h.lt
theorem Quad.new (W : World) (v0 v1 v2 v3 : Value) (t : TypeId) {g : Nat} (hg : g = W.heap.size) : Quad (W.alloc (.cells #[v0, v1, v2, v3] t)) g v0 v1 v2 v3 := by
  subst hg
  constructor <;> simp [go_sem]
end Go.Proofs.Ytnflhnfjlbjgdaa

/- The ends of a segment as points: the program's walk. -/
namespace Go.Proofs.Ytnflhnfjlbjgdaa
open Go.RowKit
theorem Blk.set12 {W : World} {vs : List Value} {v0 v1 v2 v3 v4 v5 v6 v7 v8 v9 v10 v11 : Value} {g g' : Nat} (G : Blk W g' vs) (hg : g' ≠ g) : Blk ((((((((((((W.setCell ⟨g, 0, none⟩ v0).setCell ⟨g, 1, none⟩ v1).setCell ⟨g, 2, none⟩ v2).setCell ⟨g, 3, none⟩ v3).setCell ⟨g, 4, none⟩ v4).setCell ⟨g, 5, none⟩ v5).setCell ⟨g, 6, none⟩ v6).setCell ⟨g, 7, none⟩ v7).setCell ⟨g, 8, none⟩ v8).setCell ⟨g, 9, none⟩ v9).setCell ⟨g, 10, none⟩ v10).setCell ⟨g, 11, none⟩ v11) g' vs :=
  (((((((((((G.setO hg v0).setO hg v1).setO hg v2).setO hg v3).setO hg v4).setO hg v5).setO hg v6).setO hg v7).setO hg v8).setO hg v9).setO hg v10).setO hg v11
theorem Blk.stored12 {W : World} {g : Nat} {z0 z1 z2 z3 z4 z5 z6 z7 z8 z9 z10 z11 : Value} (G : Blk W g [z0, z1, z2, z3, z4, z5, z6, z7, z8, z9, z10, z11]) (v0 v1 v2 v3 v4 v5 v6 v7 v8 v9 v10 v11 : Value) : Blk ((((((((((((W.setCell ⟨g, 0, none⟩ v0).setCell ⟨g, 1, none⟩ v1).setCell ⟨g, 2, none⟩ v2).setCell ⟨g, 3, none⟩ v3).setCell ⟨g, 4, none⟩ v4).setCell ⟨g, 5, none⟩ v5).setCell ⟨g, 6, none⟩ v6).setCell ⟨g, 7, none⟩ v7).setCell ⟨g, 8, none⟩ v8).setCell ⟨g, 9, none⟩ v9).setCell ⟨g, 10, none⟩ v10).setCell ⟨g, 11, none⟩ v11) g [v0, v1, v2, v3, v4, v5, v6, v7, v8, v9, v10, v11] :=
  (((((((((((G.setI 0 (by simp) v0).setI 1 (by simp) v1).setI 2 (by simp) v2).setI 3 (by simp) v3).setI 4 (by simp) v4).setI 5 (by simp) v5).setI 6 (by simp) v6).setI 7 (by simp) v7).setI 8 (by simp) v8).setI 9 (by simp) v9).setI 10 (by simp) v10).setI 11 (by simp) v11
theorem Below.set12 {B g : Nat} {w W : World} {v0 v1 v2 v3 v4 v5 v6 v7 v8 v9 v10 v11 : Value} (hg : B ≤ g) (h : Below B w W) : Below B w ((((((((((((W.setCell ⟨g, 0, none⟩ v0).setCell ⟨g, 1, none⟩ v1).setCell ⟨g, 2, none⟩ v2).setCell ⟨g, 3, none⟩ v3).setCell ⟨g, 4, none⟩ v4).setCell ⟨g, 5, none⟩ v5).setCell ⟨g, 6, none⟩ v6).setCell ⟨g, 7, none⟩ v7).setCell ⟨g, 8, none⟩ v8).setCell ⟨g, 9, none⟩ v9).setCell ⟨g, 10, none⟩ v10).setCell ⟨g, 11, none⟩ v11) :=
  (((((((((((h.setCell (p := ⟨g, 0, none⟩) hg _).setCell (p := ⟨g, 1, none⟩) hg _).setCell (p := ⟨g, 2, none⟩) hg _).setCell (p := ⟨g, 3, none⟩) hg _).setCell (p := ⟨g, 4, none⟩) hg _).setCell (p := ⟨g, 5, none⟩) hg _).setCell (p := ⟨g, 6, none⟩) hg _).setCell (p := ⟨g, 7, none⟩) hg _).setCell (p := ⟨g, 8, none⟩) hg _).setCell (p := ⟨g, 9, none⟩) hg _).setCell (p := ⟨g, 10, none⟩) hg _).setCell (p := ⟨g, 11, none⟩) hg _
end Go.Proofs.Ytnflhnfjlbjgdaa

/- A point of three numbers: the model's walk. -/
namespace Go.Proofs.Ytnflhnfjlbjgdaa
open Go.RowKit
/-- The point of three numbers in lowest terms, and true; zeros and false where there is none. -/
def ptV (x y z : Int) : Value := if small x && small y && small z then .tuple #[PV x y z, .bool true] else .tuple #[.agg #[.int .u64 0, .int .u64 0, .int .u64 0, .int .u64 0, .int .u64 0, .int .u64 0, .int .u64 0, .int .u64 0, .int .u64 0, .int .u64 0, .int .u64 0, .int .u64 0], .bool false]
def pmV (x y z : Int) : Value := if z = 0 then .tuple #[.agg #[.int .u64 0, .int .u64 0, .int .u64 0, .int .u64 0, .int .u64 0, .int .u64 0, .int .u64 0, .int .u64 0, .int .u64 0, .int .u64 0, .int .u64 0, .int .u64 0], .bool false] else ptV (shareZ x (Int.gcd (Int.gcd x y : Int) z : Int) (decide (z < 0))) (shareZ y (Int.gcd (Int.gcd x y : Int) z : Int) (decide (z < 0))) (shareZ z (Int.gcd (Int.gcd x y : Int) z : Int) (decide (z < 0)))
theorem ptV_ex (x y z : Int) : ∃ r0 r1 r2 r3 r4 r5 r6 r7 r8 r9 r10 r11 t, ptV x y z = .tuple #[.agg #[.int .u64 r0, .int .u64 r1, .int .u64 r2, .int .u64 r3, .int .u64 r4, .int .u64 r5, .int .u64 r6, .int .u64 r7, .int .u64 r8, .int .u64 r9, .int .u64 r10, .int .u64 r11], .bool t] := by
  unfold ptV
  split
  · exact ⟨_, _, _, _, _, _, _, _, _, _, _, _, true, rfl⟩
  · exact ⟨0, 0, 0, 0, 0, 0, 0, 0, 0, 0, 0, 0, false, rfl⟩
theorem pmV_ex (x y z : Int) : ∃ r0 r1 r2 r3 r4 r5 r6 r7 r8 r9 r10 r11 t, pmV x y z = .tuple #[.agg #[.int .u64 r0, .int .u64 r1, .int .u64 r2, .int .u64 r3, .int .u64 r4, .int .u64 r5, .int .u64 r6, .int .u64 r7, .int .u64 r8, .int .u64 r9, .int .u64 r10, .int .u64 r11], .bool t] := by
  unfold pmV
  split
  · exact ⟨0, 0, 0, 0, 0, 0, 0, 0, 0, 0, 0, 0, false, rfl⟩
  · exact ptV_ex _ _ _
set_option maxRecDepth 100000 in
set_option maxHeartbeats 2000000 in
theorem l3Point_any (ps1 : Bool) (po1 : Option Addr) (pn1 pc1 : Nat) (pd1 : List Int) (ps2 : Bool) (po2 : Option Addr) (pn2 pc2 : Nat) (pd2 : List Int) (ps3 : Bool) (po3 : Option Addr) (pn3 pc3 : Nat) (pd3 : List Int) (x y z : Int) (k : Nat) (hk : k ≤ 100000) (w : World) (N1 : IsNum w ps1 po1 pn1 pc1 pd1 x k) (N2 : IsNum w ps2 po2 pn2 pc2 pd2 y k) (N3 : IsNum w ps3 po3 pn3 pc3 pd3 z k) :
    Calls Try.prog 31 #[.agg #[.bool ps1, .slice po1 pn1 pc1, .bool ps2, .slice po2 pn2 pc2, .bool ps3, .slice po3 pn3 pc3]] w (VP (ptV x y z) w) := by
  by_cases hs : small x = true ∧ small y = true ∧ small z = true
  · obtain ⟨h1, h2, h3⟩ := hs
    have := l3Point_small ps1 po1 pn1 pc1 pd1 ps2 po2 pn2 pc2 pd2 ps3 po3 pn3 pc3 pd3 x y z k hk h1 h2 h3 w N1 N2 N3
    unfold ptV
    rw [h1, h2, h3]
    exact this
  · have hv : (small x && small y && small z) = false := by
      rw [Bool.eq_false_iff]
      intro h
      simp at h
      exact hs ⟨h.1.1, h.1.2, h.2⟩
    have HO : Hid (ptV x y z = .tuple #[.agg #[.int .u64 0, .int .u64 0, .int .u64 0, .int .u64 0, .int .u64 0, .int .u64 0, .int .u64 0, .int .u64 0, .int .u64 0, .int .u64 0, .int .u64 0, .int .u64 0], .bool false]) := by show _ = _; unfold ptV; rw [hv]; rfl
    have T0 : ArgsB w ((w.alloc (.cells #[.bool ps1, .slice po1 pn1 pc1, .bool ps2, .slice po2 pn2 pc2, .bool ps3, .slice po3 pn3 pc3] 58)).alloc (.cells #[.int .u64 0, .int .u64 0, .int .u64 0, .int .u64 0, .int .u64 0, .int .u64 0, .int .u64 0, .int .u64 0, .int .u64 0, .int .u64 0, .int .u64 0, .int .u64 0] 28)) [[.bool ps1, .slice po1 pn1 pc1, .bool ps2, .slice po2 pn2 pc2, .bool ps3, .slice po3 pn3 pc3], [.int .u64 0, .int .u64 0, .int .u64 0, .int .u64 0, .int .u64 0, .int .u64 0, .int .u64 0, .int .u64 0, .int .u64 0, .int .u64 0, .int .u64 0, .int .u64 0]] := ar2 _ _ _ _ w
    replace N1 := N1.below T0.below
    replace N2 := N2.below T0.below
    replace N3 := N3.below T0.below
    go_enter Try.func31, Try.ntmps31
    go_wp2_with fail
    refine (l3Small_any ps1 po1 pn1 pc1 pd1 ps2 po2 pn2 pc2 pd2 ps3 po3 pn3 pc3 pd3 x y z k hk _ N1 N2 N3).mono ?_
    rintro e w0 ⟨rfl, hB⟩
    rw [hv]
    replace T0 := T0.step hB
    have o0 := (T0.b 1 rfl).c 0 rfl; have u0 := (T0.b 1 rfl).f 0 rfl; have o1 := (T0.b 1 rfl).c 1 rfl; have u1 := (T0.b 1 rfl).f 1 rfl; have o2 := (T0.b 1 rfl).c 2 rfl; have u2 := (T0.b 1 rfl).f 2 rfl; have o3 := (T0.b 1 rfl).c 3 rfl; have u3 := (T0.b 1 rfl).f 3 rfl; have o4 := (T0.b 1 rfl).c 4 rfl; have u4 := (T0.b 1 rfl).f 4 rfl; have o5 := (T0.b 1 rfl).c 5 rfl; have u5 := (T0.b 1 rfl).f 5 rfl; have o6 := (T0.b 1 rfl).c 6 rfl; have u6 := (T0.b 1 rfl).f 6 rfl; have o7 := (T0.b 1 rfl).c 7 rfl; have u7 := (T0.b 1 rfl).f 7 rfl; have o8 := (T0.b 1 rfl).c 8 rfl; have u8 := (T0.b 1 rfl).f 8 rfl; have o9 := (T0.b 1 rfl).c 9 rfl; have u9 := (T0.b 1 rfl).f 9 rfl; have o10 := (T0.b 1 rfl).c 10 rfl; have u10 := (T0.b 1 rfl).f 10 rfl; have o11 := (T0.b 1 rfl).c 11 rfl; have u11 := (T0.b 1 rfl).f 11 rfl; have olt := (T0.b 1 rfl).lt
    have HB := T0.below
    clear T0 hB hs hv N1 N2 N3
    go_wp2
    refine bodyPost_ret (v := .tuple #[.agg #[.int .u64 0, .int .u64 0, .int .u64 0, .int .u64 0, .int .u64 0, .int .u64 0, .int .u64 0, .int .u64 0, .int .u64 0, .int .u64 0, .int .u64 0, .int .u64 0], .bool false]) (by simp [results, Try.results31, go_sem, o0, o1, o2, o3, o4, o5, o6, o7, o8, o9, o10, o11]) rfl ?_
    refine ⟨by rw [HO.out], ?_⟩
    repeat' (refine Below.setCell ?_ (by simp; try omega) _)
    exact HB
theorem fromW_det (z : Int) (hz : told z = true) (w : World) : Calls Try.prog 68 #[W4 z] w (NumP 8 z w) := by
  obtain ⟨a3, a2, a1, a0⟩ := ww_words z
  have h := from_any (ww3 z) (ww2 z) (ww1 z) (ww0 z) a3 a2 a1 a0 w
  rw [ww_sw hz] at h
  exact h
theorem pm_cells {x y z : Int} {w W : World} (T0 : ArgsB w W [[.int .u64 (ww3 x), .int .u64 (ww2 x), .int .u64 (ww1 x), .int .u64 (ww0 x)], [.int .u64 (ww3 y), .int .u64 (ww2 y), .int .u64 (ww1 y), .int .u64 (ww0 y)], [.int .u64 (ww3 z), .int .u64 (ww2 z), .int .u64 (ww1 z), .int .u64 (ww0 z)], [.int .u64 0, .int .u64 0, .int .u64 0, .int .u64 0, .int .u64 0, .int .u64 0, .int .u64 0, .int .u64 0, .int .u64 0, .int .u64 0, .int .u64 0, .int .u64 0]]) : (fun w' => w'.cell? ⟨w.heap.size, 0, none⟩ = some (.int .u64 (ww3 x)) ∧ w'.cell? ⟨w.heap.size, 1, none⟩ = some (.int .u64 (ww2 x)) ∧ w'.cell? ⟨w.heap.size, 2, none⟩ = some (.int .u64 (ww1 x)) ∧ w'.cell? ⟨w.heap.size, 3, none⟩ = some (.int .u64 (ww0 x)) ∧ w'.cell? ⟨w.heap.size + 1, 0, none⟩ = some (.int .u64 (ww3 y)) ∧ w'.cell? ⟨w.heap.size + 1, 1, none⟩ = some (.int .u64 (ww2 y)) ∧ w'.cell? ⟨w.heap.size + 1, 2, none⟩ = some (.int .u64 (ww1 y)) ∧ w'.cell? ⟨w.heap.size + 1, 3, none⟩ = some (.int .u64 (ww0 y)) ∧ w'.cell? ⟨w.heap.size + 2, 0, none⟩ = some (.int .u64 (ww3 z)) ∧ w'.cell? ⟨w.heap.size + 2, 1, none⟩ = some (.int .u64 (ww2 z)) ∧ w'.cell? ⟨w.heap.size + 2, 2, none⟩ = some (.int .u64 (ww1 z)) ∧ w'.cell? ⟨w.heap.size + 2, 3, none⟩ = some (.int .u64 (ww0 z))) W := ⟨(T0.b 0 rfl).c 0 rfl, (T0.b 0 rfl).c 1 rfl, (T0.b 0 rfl).c 2 rfl, (T0.b 0 rfl).c 3 rfl, (T0.b 1 rfl).c 0 rfl, (T0.b 1 rfl).c 1 rfl, (T0.b 1 rfl).c 2 rfl, (T0.b 1 rfl).c 3 rfl, (T0.b 2 rfl).c 0 rfl, (T0.b 2 rfl).c 1 rfl, (T0.b 2 rfl).c 2 rfl, (T0.b 2 rfl).c 3 rfl⟩
theorem pm_cells12 {x y z : Int} {w W : World} {v0 v1 v2 v3 v4 v5 v6 v7 v8 v9 v10 v11 : Value} (T0 : ArgsB w W [[.int .u64 (ww3 x), .int .u64 (ww2 x), .int .u64 (ww1 x), .int .u64 (ww0 x)], [.int .u64 (ww3 y), .int .u64 (ww2 y), .int .u64 (ww1 y), .int .u64 (ww0 y)], [.int .u64 (ww3 z), .int .u64 (ww2 z), .int .u64 (ww1 z), .int .u64 (ww0 z)], [.int .u64 0, .int .u64 0, .int .u64 0, .int .u64 0, .int .u64 0, .int .u64 0, .int .u64 0, .int .u64 0, .int .u64 0, .int .u64 0, .int .u64 0, .int .u64 0]]) : (fun w' => w'.cell? ⟨w.heap.size, 0, none⟩ = some (.int .u64 (ww3 x)) ∧ w'.cell? ⟨w.heap.size, 1, none⟩ = some (.int .u64 (ww2 x)) ∧ w'.cell? ⟨w.heap.size, 2, none⟩ = some (.int .u64 (ww1 x)) ∧ w'.cell? ⟨w.heap.size, 3, none⟩ = some (.int .u64 (ww0 x)) ∧ w'.cell? ⟨w.heap.size + 1, 0, none⟩ = some (.int .u64 (ww3 y)) ∧ w'.cell? ⟨w.heap.size + 1, 1, none⟩ = some (.int .u64 (ww2 y)) ∧ w'.cell? ⟨w.heap.size + 1, 2, none⟩ = some (.int .u64 (ww1 y)) ∧ w'.cell? ⟨w.heap.size + 1, 3, none⟩ = some (.int .u64 (ww0 y)) ∧ w'.cell? ⟨w.heap.size + 2, 0, none⟩ = some (.int .u64 (ww3 z)) ∧ w'.cell? ⟨w.heap.size + 2, 1, none⟩ = some (.int .u64 (ww2 z)) ∧ w'.cell? ⟨w.heap.size + 2, 2, none⟩ = some (.int .u64 (ww1 z)) ∧ w'.cell? ⟨w.heap.size + 2, 3, none⟩ = some (.int .u64 (ww0 z))) ((((((((((((W.setCell ⟨(w.heap.size + 1 + 1 + 1), 0, none⟩ v0).setCell ⟨(w.heap.size + 1 + 1 + 1), 1, none⟩ v1).setCell ⟨(w.heap.size + 1 + 1 + 1), 2, none⟩ v2).setCell ⟨(w.heap.size + 1 + 1 + 1), 3, none⟩ v3).setCell ⟨(w.heap.size + 1 + 1 + 1), 4, none⟩ v4).setCell ⟨(w.heap.size + 1 + 1 + 1), 5, none⟩ v5).setCell ⟨(w.heap.size + 1 + 1 + 1), 6, none⟩ v6).setCell ⟨(w.heap.size + 1 + 1 + 1), 7, none⟩ v7).setCell ⟨(w.heap.size + 1 + 1 + 1), 8, none⟩ v8).setCell ⟨(w.heap.size + 1 + 1 + 1), 9, none⟩ v9).setCell ⟨(w.heap.size + 1 + 1 + 1), 10, none⟩ v10).setCell ⟨(w.heap.size + 1 + 1 + 1), 11, none⟩ v11) := by
  have h0 : Blk ((((((((((((W.setCell ⟨(w.heap.size + 1 + 1 + 1), 0, none⟩ v0).setCell ⟨(w.heap.size + 1 + 1 + 1), 1, none⟩ v1).setCell ⟨(w.heap.size + 1 + 1 + 1), 2, none⟩ v2).setCell ⟨(w.heap.size + 1 + 1 + 1), 3, none⟩ v3).setCell ⟨(w.heap.size + 1 + 1 + 1), 4, none⟩ v4).setCell ⟨(w.heap.size + 1 + 1 + 1), 5, none⟩ v5).setCell ⟨(w.heap.size + 1 + 1 + 1), 6, none⟩ v6).setCell ⟨(w.heap.size + 1 + 1 + 1), 7, none⟩ v7).setCell ⟨(w.heap.size + 1 + 1 + 1), 8, none⟩ v8).setCell ⟨(w.heap.size + 1 + 1 + 1), 9, none⟩ v9).setCell ⟨(w.heap.size + 1 + 1 + 1), 10, none⟩ v10).setCell ⟨(w.heap.size + 1 + 1 + 1), 11, none⟩ v11) (w.heap.size + 0) _ := (T0.b 0 rfl).set12 (by omega)
  have h1 : Blk ((((((((((((W.setCell ⟨(w.heap.size + 1 + 1 + 1), 0, none⟩ v0).setCell ⟨(w.heap.size + 1 + 1 + 1), 1, none⟩ v1).setCell ⟨(w.heap.size + 1 + 1 + 1), 2, none⟩ v2).setCell ⟨(w.heap.size + 1 + 1 + 1), 3, none⟩ v3).setCell ⟨(w.heap.size + 1 + 1 + 1), 4, none⟩ v4).setCell ⟨(w.heap.size + 1 + 1 + 1), 5, none⟩ v5).setCell ⟨(w.heap.size + 1 + 1 + 1), 6, none⟩ v6).setCell ⟨(w.heap.size + 1 + 1 + 1), 7, none⟩ v7).setCell ⟨(w.heap.size + 1 + 1 + 1), 8, none⟩ v8).setCell ⟨(w.heap.size + 1 + 1 + 1), 9, none⟩ v9).setCell ⟨(w.heap.size + 1 + 1 + 1), 10, none⟩ v10).setCell ⟨(w.heap.size + 1 + 1 + 1), 11, none⟩ v11) (w.heap.size + 1) _ := (T0.b 1 rfl).set12 (by omega)
  have h2 : Blk ((((((((((((W.setCell ⟨(w.heap.size + 1 + 1 + 1), 0, none⟩ v0).setCell ⟨(w.heap.size + 1 + 1 + 1), 1, none⟩ v1).setCell ⟨(w.heap.size + 1 + 1 + 1), 2, none⟩ v2).setCell ⟨(w.heap.size + 1 + 1 + 1), 3, none⟩ v3).setCell ⟨(w.heap.size + 1 + 1 + 1), 4, none⟩ v4).setCell ⟨(w.heap.size + 1 + 1 + 1), 5, none⟩ v5).setCell ⟨(w.heap.size + 1 + 1 + 1), 6, none⟩ v6).setCell ⟨(w.heap.size + 1 + 1 + 1), 7, none⟩ v7).setCell ⟨(w.heap.size + 1 + 1 + 1), 8, none⟩ v8).setCell ⟨(w.heap.size + 1 + 1 + 1), 9, none⟩ v9).setCell ⟨(w.heap.size + 1 + 1 + 1), 10, none⟩ v10).setCell ⟨(w.heap.size + 1 + 1 + 1), 11, none⟩ v11) (w.heap.size + 2) _ := (T0.b 2 rfl).set12 (by omega)
  exact ⟨h0.c 0 rfl, h0.c 1 rfl, h0.c 2 rfl, h0.c 3 rfl, h1.c 0 rfl, h1.c 1 rfl, h1.c 2 rfl, h1.c 3 rfl, h2.c 0 rfl, h2.c 1 rfl, h2.c 2 rfl, h2.c 3 rfl⟩
set_option maxRecDepth 100000 in
set_option maxHeartbeats 8000000 in
theorem specPointMake_det (x y z : Int) (hx : told x = true) (hy : told y = true) (hz : told z = true) (w : World) : Calls Try.prog 53 #[W4 x, W4 y, W4 z] w (VP (pmV x y z) w) := by
  have T0 : ArgsB w ((((w.alloc (.cells #[.int .u64 (ww3 x), .int .u64 (ww2 x), .int .u64 (ww1 x), .int .u64 (ww0 x)] 26)).alloc (.cells #[.int .u64 (ww3 y), .int .u64 (ww2 y), .int .u64 (ww1 y), .int .u64 (ww0 y)] 26)).alloc (.cells #[.int .u64 (ww3 z), .int .u64 (ww2 z), .int .u64 (ww1 z), .int .u64 (ww0 z)] 26)).alloc (.cells #[.int .u64 0, .int .u64 0, .int .u64 0, .int .u64 0, .int .u64 0, .int .u64 0, .int .u64 0, .int .u64 0, .int .u64 0, .int .u64 0, .int .u64 0, .int .u64 0] 28)) [[.int .u64 (ww3 x), .int .u64 (ww2 x), .int .u64 (ww1 x), .int .u64 (ww0 x)], [.int .u64 (ww3 y), .int .u64 (ww2 y), .int .u64 (ww1 y), .int .u64 (ww0 y)], [.int .u64 (ww3 z), .int .u64 (ww2 z), .int .u64 (ww1 z), .int .u64 (ww0 z)], [.int .u64 0, .int .u64 0, .int .u64 0, .int .u64 0, .int .u64 0, .int .u64 0, .int .u64 0, .int .u64 0, .int .u64 0, .int .u64 0, .int .u64 0, .int .u64 0]] := ar4 _ _ _ _ _ _ _ _ w
  obtain ⟨z3, z2, z1, z0⟩ := ww_words z
  have EZ := eqZ4 (ww3 z) (ww2 z) (ww1 z) (ww0 z)
  rw [zero4 z3 z2 z1 z0, ww_sw hz] at EZ
  clear z3 z2 z1 z0
  by_cases h0 : z = 0
  · have HO : Hid (pmV x y z = .tuple #[.agg #[.int .u64 0, .int .u64 0, .int .u64 0, .int .u64 0, .int .u64 0, .int .u64 0, .int .u64 0, .int .u64 0, .int .u64 0, .int .u64 0, .int .u64 0, .int .u64 0], .bool false]) := by show _ = _; unfold pmV; rw [if_pos h0]
    rw [decide_eq_true h0] at EZ
    clear h0 hx hy hz
    go_enter Try.func53, Try.ntmps53
    go_upto_region 1 with fail
    generalize ((((w.alloc (.cells #[.int .u64 (ww3 x), .int .u64 (ww2 x), .int .u64 (ww1 x), .int .u64 (ww0 x)] 26)).alloc (.cells #[.int .u64 (ww3 y), .int .u64 (ww2 y), .int .u64 (ww1 y), .int .u64 (ww0 y)] 26)).alloc (.cells #[.int .u64 (ww3 z), .int .u64 (ww2 z), .int .u64 (ww1 z), .int .u64 (ww0 z)] 26)).alloc (.cells #[.int .u64 0, .int .u64 0, .int .u64 0, .int .u64 0, .int .u64 0, .int .u64 0, .int .u64 0, .int .u64 0, .int .u64 0, .int .u64 0, .int .u64 0, .int .u64 0] 28)) = W0 at *
    have aB : Blk _ (w.heap.size) _ := T0.b 0 rfl; have a0 := aB.c 0 rfl; have a1 := aB.c 1 rfl; have a2 := aB.c 2 rfl; have a3 := aB.c 3 rfl; clear aB; have bB : Blk _ (w.heap.size + 1) _ := T0.b 1 rfl; have b0 := bB.c 0 rfl; have b1 := bB.c 1 rfl; have b2 := bB.c 2 rfl; have b3 := bB.c 3 rfl; clear bB; have eB : Blk _ (w.heap.size + 1 + 1) _ := T0.b 2 rfl; have e0 := eB.c 0 rfl; have e1 := eB.c 1 rfl; have e2 := eB.c 2 rfl; have e3 := eB.c 3 rfl; clear eB
    have o0 := (T0.b 3 rfl).c 0 rfl; have u0 := (T0.b 3 rfl).f 0 rfl; have o1 := (T0.b 3 rfl).c 1 rfl; have u1 := (T0.b 3 rfl).f 1 rfl; have o2 := (T0.b 3 rfl).c 2 rfl; have u2 := (T0.b 3 rfl).f 2 rfl; have o3 := (T0.b 3 rfl).c 3 rfl; have u3 := (T0.b 3 rfl).f 3 rfl; have o4 := (T0.b 3 rfl).c 4 rfl; have u4 := (T0.b 3 rfl).f 4 rfl; have o5 := (T0.b 3 rfl).c 5 rfl; have u5 := (T0.b 3 rfl).f 5 rfl; have o6 := (T0.b 3 rfl).c 6 rfl; have u6 := (T0.b 3 rfl).f 6 rfl; have o7 := (T0.b 3 rfl).c 7 rfl; have u7 := (T0.b 3 rfl).f 7 rfl; have o8 := (T0.b 3 rfl).c 8 rfl; have u8 := (T0.b 3 rfl).f 8 rfl; have o9 := (T0.b 3 rfl).c 9 rfl; have u9 := (T0.b 3 rfl).f 9 rfl; have o10 := (T0.b 3 rfl).c 10 rfl; have u10 := (T0.b 3 rfl).f 10 rfl; have o11 := (T0.b 3 rfl).c 11 rfl; have u11 := (T0.b 3 rfl).f 11 rfl; have olt := (T0.b 3 rfl).lt
    have HB := T0.below
    clear T0
    go_wp2
    refine bodyPost_ret (v := .tuple #[.agg #[.int .u64 0, .int .u64 0, .int .u64 0, .int .u64 0, .int .u64 0, .int .u64 0, .int .u64 0, .int .u64 0, .int .u64 0, .int .u64 0, .int .u64 0, .int .u64 0], .bool false]) (by simp [results, Try.results53, go_sem, o0, o1, o2, o3, o4, o5, o6, o7, o8, o9, o10, o11]) rfl ?_
    refine ⟨by rw [HO.out], ?_⟩
    repeat' (refine Below.setCell ?_ (by simp; try omega) _)
    exact HB
  · have HO : Hid (pmV x y z = ptV (shareZ x (Int.gcd (Int.gcd x y : Int) z : Int) (decide (z < 0))) (shareZ y (Int.gcd (Int.gcd x y : Int) z : Int) (decide (z < 0))) (shareZ z (Int.gcd (Int.gcd x y : Int) z : Int) (decide (z < 0)))) := by show _ = _; unfold pmV; rw [if_neg h0]
    rw [decide_eq_false h0] at EZ
    have F1 := fromW_det x hx
    have F2 := fromW_det y hy
    have F3 := fromW_det z hz
    obtain ⟨r0, r1, r2, r3, r4, r5, r6, r7, r8, r9, r10, r11, t, ht⟩ := ptV_ex (shareZ x (Int.gcd (Int.gcd x y : Int) z : Int) (decide (z < 0))) (shareZ y (Int.gcd (Int.gcd x y : Int) z : Int) (decide (z < 0))) (shareZ z (Int.gcd (Int.gcd x y : Int) z : Int) (decide (z < 0)))
    rw [ht] at HO
    clear hx hy hz
    have tok1 : True := trivial
    have tok2 : True := trivial
    go_enter Try.func53, Try.ntmps53
    go_upto_region 1 with fail
    generalize ((((w.alloc (.cells #[.int .u64 (ww3 x), .int .u64 (ww2 x), .int .u64 (ww1 x), .int .u64 (ww0 x)] 26)).alloc (.cells #[.int .u64 (ww3 y), .int .u64 (ww2 y), .int .u64 (ww1 y), .int .u64 (ww0 y)] 26)).alloc (.cells #[.int .u64 (ww3 z), .int .u64 (ww2 z), .int .u64 (ww1 z), .int .u64 (ww0 z)] 26)).alloc (.cells #[.int .u64 0, .int .u64 0, .int .u64 0, .int .u64 0, .int .u64 0, .int .u64 0, .int .u64 0, .int .u64 0, .int .u64 0, .int .u64 0, .int .u64 0, .int .u64 0] 28)) = W0 at *
    have aB : Blk _ (w.heap.size) _ := T0.b 0 rfl; have a0 := aB.c 0 rfl; have a1 := aB.c 1 rfl; have a2 := aB.c 2 rfl; have a3 := aB.c 3 rfl; clear aB; have bB : Blk _ (w.heap.size + 1) _ := T0.b 1 rfl; have b0 := bB.c 0 rfl; have b1 := bB.c 1 rfl; have b2 := bB.c 2 rfl; have b3 := bB.c 3 rfl; clear bB; have eB : Blk _ (w.heap.size + 1 + 1) _ := T0.b 2 rfl; have e0 := eB.c 0 rfl; have e1 := eB.c 1 rfl; have e2 := eB.c 2 rfl; have e3 := eB.c 3 rfl; clear eB
    go_upto_region 3 with fail
    clear a0 a1 a2 a3 b0 b1 b2 b3 e0 e1 e2 e3
    go_region_held3 (fun w' => w'.cell? ⟨w.heap.size, 0, none⟩ = some (.int .u64 (ww3 x)) ∧ w'.cell? ⟨w.heap.size, 1, none⟩ = some (.int .u64 (ww2 x)) ∧ w'.cell? ⟨w.heap.size, 2, none⟩ = some (.int .u64 (ww1 x)) ∧ w'.cell? ⟨w.heap.size, 3, none⟩ = some (.int .u64 (ww0 x)) ∧ w'.cell? ⟨w.heap.size + 1, 0, none⟩ = some (.int .u64 (ww3 y)) ∧ w'.cell? ⟨w.heap.size + 1, 1, none⟩ = some (.int .u64 (ww2 y)) ∧ w'.cell? ⟨w.heap.size + 1, 2, none⟩ = some (.int .u64 (ww1 y)) ∧ w'.cell? ⟨w.heap.size + 1, 3, none⟩ = some (.int .u64 (ww0 y)) ∧ w'.cell? ⟨w.heap.size + 2, 0, none⟩ = some (.int .u64 (ww3 z)) ∧ w'.cell? ⟨w.heap.size + 2, 1, none⟩ = some (.int .u64 (ww2 z)) ∧ w'.cell? ⟨w.heap.size + 2, 2, none⟩ = some (.int .u64 (ww1 z)) ∧ w'.cell? ⟨w.heap.size + 2, 3, none⟩ = some (.int .u64 (ww0 z))) (first | (with_reducible exact pm_cells T0) | (with_reducible exact pm_cells T0.drew) | (with_reducible exact pm_cells12 T0))
      (first
        | (go_at_call 68; have _t := tok1; refine (F1 _).mono ?_; rintro e k1 ⟨s1, o1', n1, c1, d1, rfl, N1, hB⟩; (first | (have T1 := T0.step hB) | (have T1 := T0.drew.step hB)); clear T0; have T0 := T1; clear T1; clear hB tok1 _t)
        | (go_at_call 68; have _t := tok2; refine (F2 _).mono ?_; rintro e k2 ⟨s2, o2', n2, c2, d2, rfl, N2, hB⟩; (first | (have T1 := T0.step hB) | (have T1 := T0.drew.step hB)); clear T0; have T0 := T1; clear T1; replace N1 := N1.below hB; clear hB tok2 _t)
        | (go_at_call 68; refine (F3 _).mono ?_; rintro e k3 ⟨s3, o3', n3, c3, d3, rfl, N3, hB⟩; (first | (have T1 := T0.step hB) | (have T1 := T0.drew.step hB)); clear T0; have T0 := T1; clear T1; replace N1 := N1.below hB; replace N2 := N2.below hB; clear hB)
        | (go_at_call 32; refine (l3Make_any s1 o1' n1 c1 d1 s2 o2' n2 c2 d2 s3 o3' n3 c3 d3 x y z 8 (by omega) (by omega) _ N1 N2 N3 h0).mono ?_; rintro e k4 ⟨ps1, po1, pn1, pc1, pd1, ps2, po2, pn2, pc2, pd2, ps3, po3, pn3, pc3, pd3, rfl, M1, M2, M3, hB⟩; (first | (have T1 := T0.step hB) | (have T1 := T0.drew.step hB)); clear T0; have T0 := T1; clear T1; clear hB N1 N2 N3)
        | (go_at_call 31; refine (l3Point_any ps1 po1 pn1 pc1 pd1 ps2 po2 pn2 pc2 pd2 ps3 po3 pn3 pc3 pd3 _ _ _ _ (by omega) _ M1 M2 M3).mono ?_; rw [ht]; rintro e k5 ⟨rfl, hB⟩; (first | (have T1 := T0.step hB) | (have T1 := T0.drew.step hB)); clear T0; have T0 := T1; clear T1; clear hB M1 M2 M3; have o0 := (T0.b 3 rfl).c 0 rfl; have u0 := (T0.b 3 rfl).f 0 rfl; have o1 := (T0.b 3 rfl).c 1 rfl; have u1 := (T0.b 3 rfl).f 1 rfl; have o2 := (T0.b 3 rfl).c 2 rfl; have u2 := (T0.b 3 rfl).f 2 rfl; have o3 := (T0.b 3 rfl).c 3 rfl; have u3 := (T0.b 3 rfl).f 3 rfl; have o4 := (T0.b 3 rfl).c 4 rfl; have u4 := (T0.b 3 rfl).f 4 rfl; have o5 := (T0.b 3 rfl).c 5 rfl; have u5 := (T0.b 3 rfl).f 5 rfl; have o6 := (T0.b 3 rfl).c 6 rfl; have u6 := (T0.b 3 rfl).f 6 rfl; have o7 := (T0.b 3 rfl).c 7 rfl; have u7 := (T0.b 3 rfl).f 7 rfl; have o8 := (T0.b 3 rfl).c 8 rfl; have u8 := (T0.b 3 rfl).f 8 rfl; have o9 := (T0.b 3 rfl).c 9 rfl; have u9 := (T0.b 3 rfl).f 9 rfl; have o10 := (T0.b 3 rfl).c 10 rfl; have u10 := (T0.b 3 rfl).f 10 rfl; have o11 := (T0.b 3 rfl).c 11 rfl; have u11 := (T0.b 3 rfl).f 11 rfl; have olt := (T0.b 3 rfl).lt))
    all_goals have HB := T0.below
    all_goals have X3 : Blk _ (w.heap.size + 1 + 1 + 1) _ := T0.b 3 rfl
    all_goals clear T0
    all_goals go_wp2
    all_goals refine bodyPost_ret (v := .tuple #[.agg #[.int .u64 r0, .int .u64 r1, .int .u64 r2, .int .u64 r3, .int .u64 r4, .int .u64 r5, .int .u64 r6, .int .u64 r7, .int .u64 r8, .int .u64 r9, .int .u64 r10, .int .u64 r11], .bool t]) (by simp [results, Try.results53, go_sem, o0, o1, o2, o3, o4, o5, o6, o7, o8, o9, o10, o11]) rfl ?_
    all_goals refine ⟨by rw [HO.out], ?_⟩
    all_goals repeat' (refine Below.setCell ?_ (by simp; try omega) _)
    all_goals first | exact HB | exact HB.drew
end Go.Proofs.Ytnflhnfjlbjgdaa

/- Points drawn from a code. -/
namespace Go.Proofs.Ytnflhnfjlbjgdaa
open Go.RowKit
set_option maxRecDepth 100000 in
set_option maxHeartbeats 1000000 in
theorem near_p40 (g : Nat) (ao : Option Addr) (n cap : Nat) (cs : List Int) (w : World) (h : Rdr w g ao n cap cs) :
    Calls Try.prog 57 #[.pointer (some ⟨g, 0, none⟩), .int .i64 (-40), .int .i64 40] w (RdP g ao n cap cs (IsIn (-40) 41) w) := by
  go_enter Try.func57, Try.ntmps57
  go_wp2_with fail
  refine (below_any 8 (by decide) (by decide) g ao n cap cs _ h).mono ?_
  rintro e w1 ⟨_, rfl, ⟨x, rfl, x0, x1⟩, R, K⟩
  clear h
  by_cases h0 : x = 0
  · subst h0
    go_wp2
    go_ret
    exact ⟨_, rfl, ⟨_, rfl, by decide, by decide⟩, R, K⟩
  · by_cases h1 : x = 1
    · subst h1
      go_wp2
      go_ret
      exact ⟨_, rfl, ⟨_, rfl, by decide, by decide⟩, R, K⟩
    · have e0 : (x == 0) = false := by simpa using h0
      have e1 : (x == 1) = false := by simpa using h1
      go_wp2_with fail
      refine (word_any g ao n cap cs _ R).mono ?_
      rintro e w2 ⟨_, rfl, ⟨y, rfl, y0, y1⟩, R2, K2⟩
      replace K := K.trans K2
      clear R K2
      have hw : IntKind.u64.wrap 81 = 81 := by rw [IntKind.wrap_u64]; decide
      go_wp2
      go_ret
      exact ⟨_, rfl, ⟨_, rfl, by omega, by omega⟩, R2, K⟩
set_option maxRecDepth 100000 in
set_option maxHeartbeats 1000000 in
theorem near_p9 (g : Nat) (ao : Option Addr) (n cap : Nat) (cs : List Int) (w : World) (h : Rdr w g ao n cap cs) :
    Calls Try.prog 57 #[.pointer (some ⟨g, 0, none⟩), .int .i64 0, .int .i64 9] w (RdP g ao n cap cs (IsIn 0 10) w) := by
  go_enter Try.func57, Try.ntmps57
  go_wp2_with fail
  refine (below_any 8 (by decide) (by decide) g ao n cap cs _ h).mono ?_
  rintro e w1 ⟨_, rfl, ⟨x, rfl, x0, x1⟩, R, K⟩
  clear h
  by_cases h0 : x = 0
  · subst h0
    go_wp2
    go_ret
    exact ⟨_, rfl, ⟨_, rfl, by decide, by decide⟩, R, K⟩
  · by_cases h1 : x = 1
    · subst h1
      go_wp2
      go_ret
      exact ⟨_, rfl, ⟨_, rfl, by decide, by decide⟩, R, K⟩
    · have e0 : (x == 0) = false := by simpa using h0
      have e1 : (x == 1) = false := by simpa using h1
      go_wp2_with fail
      refine (word_any g ao n cap cs _ R).mono ?_
      rintro e w2 ⟨_, rfl, ⟨y, rfl, y0, y1⟩, R2, K2⟩
      replace K := K.trans K2
      clear R K2
      have hw : IntKind.u64.wrap 10 = 10 := by rw [IntKind.wrap_u64]; decide
      go_wp2
      go_ret
      exact ⟨_, rfl, ⟨_, rfl, by omega, by omega⟩, R2, K⟩
set_option maxRecDepth 100000 in
set_option maxHeartbeats 1000000 in
theorem near_pm (g : Nat) (ao : Option Addr) (n cap : Nat) (cs : List Int) (w : World) (h : Rdr w g ao n cap cs) :
    Calls Try.prog 57 #[.pointer (some ⟨g, 0, none⟩), .int .i64 (-1000000), .int .i64 1000000] w (RdP g ao n cap cs (IsIn (-1000000) 1000001) w) := by
  go_enter Try.func57, Try.ntmps57
  go_wp2_with fail
  refine (below_any 8 (by decide) (by decide) g ao n cap cs _ h).mono ?_
  rintro e w1 ⟨_, rfl, ⟨x, rfl, x0, x1⟩, R, K⟩
  clear h
  by_cases h0 : x = 0
  · subst h0
    go_wp2
    go_ret
    exact ⟨_, rfl, ⟨_, rfl, by decide, by decide⟩, R, K⟩
  · by_cases h1 : x = 1
    · subst h1
      go_wp2
      go_ret
      exact ⟨_, rfl, ⟨_, rfl, by decide, by decide⟩, R, K⟩
    · have e0 : (x == 0) = false := by simpa using h0
      have e1 : (x == 1) = false := by simpa using h1
      go_wp2_with fail
      refine (word_any g ao n cap cs _ R).mono ?_
      rintro e w2 ⟨_, rfl, ⟨y, rfl, y0, y1⟩, R2, K2⟩
      replace K := K.trans K2
      clear R K2
      have hw : IntKind.u64.wrap 2000001 = 2000001 := by rw [IntKind.wrap_u64]; decide
      go_wp2
      go_ret
      exact ⟨_, rfl, ⟨_, rfl, by omega, by omega⟩, R2, K⟩
set_option maxRecDepth 100000 in
set_option maxHeartbeats 1000000 in
theorem near_p6 (g : Nat) (ao : Option Addr) (n cap : Nat) (cs : List Int) (w : World) (h : Rdr w g ao n cap cs) :
    Calls Try.prog 57 #[.pointer (some ⟨g, 0, none⟩), .int .i64 (-6), .int .i64 6] w (RdP g ao n cap cs (IsIn (-6) 7) w) := by
  go_enter Try.func57, Try.ntmps57
  go_wp2_with fail
  refine (below_any 8 (by decide) (by decide) g ao n cap cs _ h).mono ?_
  rintro e w1 ⟨_, rfl, ⟨x, rfl, x0, x1⟩, R, K⟩
  clear h
  by_cases h0 : x = 0
  · subst h0
    go_wp2
    go_ret
    exact ⟨_, rfl, ⟨_, rfl, by decide, by decide⟩, R, K⟩
  · by_cases h1 : x = 1
    · subst h1
      go_wp2
      go_ret
      exact ⟨_, rfl, ⟨_, rfl, by decide, by decide⟩, R, K⟩
    · have e0 : (x == 0) = false := by simpa using h0
      have e1 : (x == 1) = false := by simpa using h1
      go_wp2_with fail
      refine (word_any g ao n cap cs _ R).mono ?_
      rintro e w2 ⟨_, rfl, ⟨y, rfl, y0, y1⟩, R2, K2⟩
      replace K := K.trans K2
      clear R K2
      have hw : IntKind.u64.wrap 13 = 13 := by rw [IntKind.wrap_u64]; decide
      go_wp2
      go_ret
      exact ⟨_, rfl, ⟨_, rfl, by omega, by omega⟩, R2, K⟩
/-- A point of numbers, whatever they are. -/
def IsPt (v : Value) : Prop := ∃ x y z : Int, v = PV x y z ∧ told x = true ∧ told y = true ∧ told z = true
theorem wide_W4 {v : Value} (h : IsWide v) : ∃ x : Int, v = W4 x ∧ told x = true := by
  obtain ⟨a3, a2, a1, a0, rfl, h3, h2, h1, h0⟩ := h
  obtain ⟨f3, f2, f1, f0⟩ := wd_of h3 h2 h1 h0 rfl
  have ht : told (sw a3 a2 a1 a0) = true := by
    unfold told
    apply decide_eq_true
    unfold Word sw uw at *
    split <;> omega
  exact ⟨sw a3 a2 a1 a0, by show _ = Value.agg #[.int .u64 (ww3 (sw a3 a2 a1 a0)), .int .u64 (ww2 (sw a3 a2 a1 a0)), .int .u64 (ww1 (sw a3 a2 a1 a0)), .int .u64 (ww0 (sw a3 a2 a1 a0))]; rw [← f3, ← f2, ← f1, ← f0], ht⟩
theorem PV0 : PV 0 0 0 = .agg #[.int .u64 0, .int .u64 0, .int .u64 0, .int .u64 0, .int .u64 0, .int .u64 0, .int .u64 0, .int .u64 0, .int .u64 0, .int .u64 0, .int .u64 0, .int .u64 0] := by
  have h3 : ww3 0 = 0 := by decide
  have h2 : ww2 0 = 0 := by decide
  have h1 : ww1 0 = 0 := by decide
  have h0 : ww0 0 = 0 := by decide
  show Value.agg #[.int .u64 (ww3 0), .int .u64 (ww2 0), .int .u64 (ww1 0), .int .u64 (ww0 0), .int .u64 (ww3 0), .int .u64 (ww2 0), .int .u64 (ww1 0), .int .u64 (ww0 0), .int .u64 (ww3 0), .int .u64 (ww2 0), .int .u64 (ww1 0), .int .u64 (ww0 0)] = _
  rw [h3, h2, h1, h0]
theorem ptV_pt (x y z : Int) : ∃ a b c t, ptV x y z = .tuple #[PV a b c, .bool t] ∧ told a = true ∧ told b = true ∧ told c = true := by
  unfold ptV
  split
  · rename_i h
    simp at h
    exact ⟨x, y, z, true, rfl, told_small h.1.1, told_small h.1.2, told_small h.2⟩
  · exact ⟨0, 0, 0, false, by rw [PV0], by decide, by decide, by decide⟩
theorem pmV_pt (x y z : Int) : ∃ a b c t, pmV x y z = .tuple #[PV a b c, .bool t] ∧ told a = true ∧ told b = true ∧ told c = true := by
  unfold pmV
  split
  · exact ⟨0, 0, 0, false, by rw [PV0], by decide, by decide, by decide⟩
  · exact ptV_pt _ _ _
end Go.Proofs.Ytnflhnfjlbjgdaa

/- Points drawn from a code: the walks. -/
namespace Go.Proofs.Ytnflhnfjlbjgdaa
open Go.RowKit
theorem pt_done {w W : World} {g : Nat} {ao : Option Addr} {n cap : Nat} {cs : List Int} {a b c : Int} (hg : g < w.heap.size) (R : Rdr W g ao n cap cs) (K : Kept g w W) (ta : told a = true) (tb : told b = true) (tc : told c = true) {v0 v1 v2 v3 v4 v5 v6 v7 v8 v9 v10 v11 : Value} :
    RdP g ao n cap cs IsPt w (.returned (PV a b c)) ((((((((((((W.setCell ⟨w.heap.size, 0, none⟩ v0).setCell ⟨w.heap.size, 1, none⟩ v1).setCell ⟨w.heap.size, 2, none⟩ v2).setCell ⟨w.heap.size, 3, none⟩ v3).setCell ⟨w.heap.size, 4, none⟩ v4).setCell ⟨w.heap.size, 5, none⟩ v5).setCell ⟨w.heap.size, 6, none⟩ v6).setCell ⟨w.heap.size, 7, none⟩ v7).setCell ⟨w.heap.size, 8, none⟩ v8).setCell ⟨w.heap.size, 9, none⟩ v9).setCell ⟨w.heap.size, 10, none⟩ v10).setCell ⟨w.heap.size, 11, none⟩ v11) := by
  refine ⟨_, rfl, ⟨a, b, c, rfl, ta, tb, tc⟩, ?_, ?_⟩
  · repeat' (refine Rdr.setN ?_ (by exact hg) _)
    exact R
  · repeat' (refine Kept.setN ?_ (by simp) (by simp; omega) _)
    exact K
theorem told_w (n : Int) : told (wrap64 n) = true := told_small (small_int (by unfold wrap64; omega) (by unfold wrap64; omega))
theorem specOfW (n : Int) (w : World) (h0 : -9223372036854775808 ≤ n) (h1 : n ≤ 9223372036854775807) : Calls Try.prog 55 #[.int .i64 n] w (VP (W4 n) w) := by
  refine (specOf_any n w h0 h1).mono ?_
  rintro e w' ⟨a3, a2, a1, a0, rfl, g3, g2, g1, g0, hs, hB⟩
  obtain ⟨rfl, rfl, rfl, rfl⟩ := wd_of g3 g2 g1 g0 hs
  exact ⟨rfl, hB⟩
/-- A spot of small numbers. -/
def IsSp6 (v : Value) : Prop := ∃ x y : Int, v = .agg #[.int .i64 x, .int .i64 y] ∧ -6 ≤ x ∧ x < 7 ∧ -6 ≤ y ∧ y < 7
set_option maxRecDepth 100000 in
set_option maxHeartbeats 1000000 in
theorem spot_any (g : Nat) (ao : Option Addr) (n cap : Nat) (cs : List Int) (w : World) (h : Rdr w g ao n cap cs) :
    Calls Try.prog 59 #[.pointer (some ⟨g, 0, none⟩)] w (RdP g ao n cap cs IsSp6 w) := by
  have hg := h.lt
  have hne : w.heap.size ≠ g := by omega
  have B := Blk.new w [.int .i64 0, .int .i64 0] 91 rfl
  have R := h.alloc (.cells #[.int .i64 0, .int .i64 0] 91)
  have K := (Kept.refl g w).alloc (.cells #[.int .i64 0, .int .i64 0] 91)
  clear h
  go_enter Try.func59, Try.ntmps59
  go_wp2_with fail
  refine (near_p6 g ao n cap cs _ R).mono ?_
  rintro e w1 ⟨_, rfl, ⟨y, rfl, y0, y1⟩, R1, K1⟩
  replace B := B.kept K1 hne; replace K := K.trans K1
  clear R K1
  have R := R1
  clear R1
  go_wp2_with fail
  refine (near_p6 g ao n cap cs _ R).mono ?_
  rintro e w2 ⟨_, rfl, ⟨y', rfl, y0', y1'⟩, R1, K1⟩
  replace B := B.kept K1 hne; replace K := K.trans K1
  clear R K1
  have R := R1
  clear R1
  have o0 := B.c 0 rfl; have f0 := B.f 0 rfl; have o1 := B.c 1 rfl; have f1 := B.f 1 rfl; have ol := B.lt
  clear B
  go_wp2
  refine bodyPost_ret (v := .agg #[.int .i64 y, .int .i64 y']) (by simp [results, Try.results59, go_sem, o0, o1]) rfl ?_
  exact ⟨_, rfl, ⟨y, y', rfl, y0, y1, y0', y1'⟩, (R.setN (by exact hg) _).setN (by exact hg) _, (K.setN (by simp) (by simp; omega) _).setN (by simp) (by simp; omega) _⟩
set_option maxRecDepth 100000 in
set_option maxHeartbeats 4000000 in
theorem point_any (g : Nat) (ao : Option Addr) (n cap : Nat) (cs : List Int) (w : World) (h : Rdr w g ao n cap cs) :
    Calls Try.prog 23 #[.pointer (some ⟨g, 0, none⟩)] w (RdP g ao n cap cs IsPt w) := by
  have hg := h.lt
  have hne : w.heap.size ≠ g := by omega
  have B := Blk.new w [.int .u64 0, .int .u64 0, .int .u64 0, .int .u64 0, .int .u64 0, .int .u64 0, .int .u64 0, .int .u64 0, .int .u64 0, .int .u64 0, .int .u64 0, .int .u64 0] 28 rfl
  have R := h.alloc (.cells #[.int .u64 0, .int .u64 0, .int .u64 0, .int .u64 0, .int .u64 0, .int .u64 0, .int .u64 0, .int .u64 0, .int .u64 0, .int .u64 0, .int .u64 0, .int .u64 0] 28)
  have K := (Kept.refl g w).alloc (.cells #[.int .u64 0, .int .u64 0, .int .u64 0, .int .u64 0, .int .u64 0, .int .u64 0, .int .u64 0, .int .u64 0, .int .u64 0, .int .u64 0, .int .u64 0, .int .u64 0] 28)
  have SO := fun n w h0 h1 => specOfW n w h0 h1
  clear h
  go_enter Try.func23, Try.ntmps23
  go_wp2_with fail
  refine (below_any 10 (by decide) (by decide) g ao n cap cs _ R).mono ?_
  rintro e w1 ⟨_, rfl, ⟨x, rfl, x0, x1⟩, R1, K1⟩
  replace B := B.kept K1 hne; replace K := K.trans K1
  clear R K1
  have R := R1
  clear R1
  rcases (by omega : x = 0 ∨ x = 1 ∨ (x = 2 ∨ x = 3 ∨ x = 4) ∨ x = 5 ∨ (x = 6 ∨ x = 7 ∨ x = 8 ∨ x = 9)) with rfl | rfl | hx | rfl | hx
  · clear SO x0 x1
    go_wp2_with fail
    refine (wide_any g ao n cap cs _ R).mono ?_
    rintro e w2 ⟨v_, rfl, hv, R1, K1⟩
    replace B := B.kept K1 hne; replace K := K.trans K1
    clear R K1
    have R := R1
    clear R1
    obtain ⟨xa, rfl, txa⟩ := wide_W4 hv
    clear hv
    go_wp2_with fail
    refine (wide_any g ao n cap cs _ R).mono ?_
    rintro e w3 ⟨v_, rfl, hv, R1, K1⟩
    replace B := B.kept K1 hne; replace K := K.trans K1
    clear R K1
    have R := R1
    clear R1
    obtain ⟨xb, rfl, txb⟩ := wide_W4 hv
    clear hv
    go_wp2_with fail
    refine (wide_any g ao n cap cs _ R).mono ?_
    rintro e w4 ⟨v_, rfl, hv, R1, K1⟩
    replace B := B.kept K1 hne; replace K := K.trans K1
    clear R K1
    have R := R1
    clear R1
    obtain ⟨xc, rfl, txc⟩ := wide_W4 hv
    clear hv
    have PM := fun w => specPointMake_det xa xb xc txa txb txc w
    obtain ⟨a, b, c, tt, hpm, ta, tb, tc⟩ := pmV_pt xa xb xc
    rw [hpm] at PM
    clear hpm
    go_wp2_with fail
    refine (PM _).mono ?_
    rintro e w5 ⟨rfl, hB⟩
    replace R := R.step hB; replace B := B.step hB; replace K := K.trans (Kept.of hB)
    clear hB
    clear PM
    replace R := R.alloc (.cells #[.int .u64 (ww3 a), .int .u64 (ww2 a), .int .u64 (ww1 a), .int .u64 (ww0 a), .int .u64 (ww3 b), .int .u64 (ww2 b), .int .u64 (ww1 b), .int .u64 (ww0 b), .int .u64 (ww3 c), .int .u64 (ww2 c), .int .u64 (ww1 c), .int .u64 (ww0 c)] 28); replace B := B.alloc (.cells #[.int .u64 (ww3 a), .int .u64 (ww2 a), .int .u64 (ww1 a), .int .u64 (ww0 a), .int .u64 (ww3 b), .int .u64 (ww2 b), .int .u64 (ww1 b), .int .u64 (ww0 b), .int .u64 (ww3 c), .int .u64 (ww2 c), .int .u64 (ww1 c), .int .u64 (ww0 c)] 28); replace K := K.alloc (.cells #[.int .u64 (ww3 a), .int .u64 (ww2 a), .int .u64 (ww1 a), .int .u64 (ww0 a), .int .u64 (ww3 b), .int .u64 (ww2 b), .int .u64 (ww1 b), .int .u64 (ww0 b), .int .u64 (ww3 c), .int .u64 (ww2 c), .int .u64 (ww1 c), .int .u64 (ww0 c)] 28)
    have o0 := B.c 0 rfl; have f0 := B.f 0 rfl; have o1 := B.c 1 rfl; have f1 := B.f 1 rfl; have o2 := B.c 2 rfl; have f2 := B.f 2 rfl; have o3 := B.c 3 rfl; have f3 := B.f 3 rfl; have o4 := B.c 4 rfl; have f4 := B.f 4 rfl; have o5 := B.c 5 rfl; have f5 := B.f 5 rfl; have o6 := B.c 6 rfl; have f6 := B.f 6 rfl; have o7 := B.c 7 rfl; have f7 := B.f 7 rfl; have o8 := B.c 8 rfl; have f8 := B.f 8 rfl; have o9 := B.c 9 rfl; have f9 := B.f 9 rfl; have o10 := B.c 10 rfl; have f10 := B.f 10 rfl; have o11 := B.c 11 rfl; have f11 := B.f 11 rfl; have ol := B.lt
    clear B
    go_wp2
    refine bodyPost_ret (v := PV a b c) (by simp [results, Try.results23, go_sem, o0, o1, o2, o3, o4, o5, o6, o7, o8, o9, o10, o11]) rfl ?_
    exact pt_done hg R K ta tb tc
  · clear x0 x1
    go_wp2_with fail
    refine (once_any 4 (by decide) (by decide) g ao n cap cs _ R).mono ?_
    rintro e w2 ⟨_, rfl, ⟨bb, rfl⟩, R1, K1⟩
    replace B := B.kept K1 hne; replace K := K.trans K1
    clear R K1
    have R := R1
    clear R1
    cases bb
    · go_wp2_with fail
      refine (word_any g ao n cap cs _ R).mono ?_
      rintro e w3 ⟨_, rfl, ⟨y, rfl, y0, y1⟩, R1, K1⟩
      replace B := B.kept K1 hne; replace K := K.trans K1
      clear R K1
      have R := R1
      clear R1
      go_wp2_with fail
      refine (SO _ _ (by first | omega | (unfold wrap64; omega)) (by first | omega | (unfold wrap64; omega))).mono ?_
      rintro e w4 ⟨rfl, hB⟩
      replace R := R.step hB; replace B := B.step hB; replace K := K.trans (Kept.of hB)
      clear hB
      go_wp2_with fail
      refine (word_any g ao n cap cs _ R).mono ?_
      rintro e w5 ⟨_, rfl, ⟨y', rfl, y0', y1'⟩, R1, K1⟩
      replace B := B.kept K1 hne; replace K := K.trans K1
      clear R K1
      have R := R1
      clear R1
      go_wp2_with fail
      refine (SO _ _ (by first | omega | (unfold wrap64; omega)) (by first | omega | (unfold wrap64; omega))).mono ?_
      rintro e w6 ⟨rfl, hB⟩
      replace R := R.step hB; replace B := B.step hB; replace K := K.trans (Kept.of hB)
      clear hB
      go_wp2_with fail
      refine (word_any g ao n cap cs _ R).mono ?_
      rintro e w7 ⟨_, rfl, ⟨y2, rfl, y20, y21⟩, R1, K1⟩
      replace B := B.kept K1 hne; replace K := K.trans K1
      clear R K1
      have R := R1
      clear R1
      go_wp2_with fail
      refine (SO _ _ (by first | omega | (unfold wrap64; omega)) (by first | omega | (unfold wrap64; omega))).mono ?_
      rintro e w8 ⟨rfl, hB⟩
      replace R := R.step hB; replace B := B.step hB; replace K := K.trans (Kept.of hB)
      clear hB
      have PM := fun w => specPointMake_det (wrap64 y) (wrap64 y') (wrap64 (1 + y2 / 2)) (told_w _) (told_w _) (told_w _) w
      obtain ⟨a, b, c, tt, hpm, ta, tb, tc⟩ := pmV_pt (wrap64 y) (wrap64 y') (wrap64 (1 + y2 / 2))
      rw [hpm] at PM
      clear hpm
      go_wp2_with fail
      refine (PM _).mono ?_
      rintro e w9 ⟨rfl, hB⟩
      replace R := R.step hB; replace B := B.step hB; replace K := K.trans (Kept.of hB)
      clear hB
      clear PM
      replace R := R.alloc (.cells #[.int .u64 (ww3 a), .int .u64 (ww2 a), .int .u64 (ww1 a), .int .u64 (ww0 a), .int .u64 (ww3 b), .int .u64 (ww2 b), .int .u64 (ww1 b), .int .u64 (ww0 b), .int .u64 (ww3 c), .int .u64 (ww2 c), .int .u64 (ww1 c), .int .u64 (ww0 c)] 28); replace B := B.alloc (.cells #[.int .u64 (ww3 a), .int .u64 (ww2 a), .int .u64 (ww1 a), .int .u64 (ww0 a), .int .u64 (ww3 b), .int .u64 (ww2 b), .int .u64 (ww1 b), .int .u64 (ww0 b), .int .u64 (ww3 c), .int .u64 (ww2 c), .int .u64 (ww1 c), .int .u64 (ww0 c)] 28); replace K := K.alloc (.cells #[.int .u64 (ww3 a), .int .u64 (ww2 a), .int .u64 (ww1 a), .int .u64 (ww0 a), .int .u64 (ww3 b), .int .u64 (ww2 b), .int .u64 (ww1 b), .int .u64 (ww0 b), .int .u64 (ww3 c), .int .u64 (ww2 c), .int .u64 (ww1 c), .int .u64 (ww0 c)] 28)
      have o0 := B.c 0 rfl; have f0 := B.f 0 rfl; have o1 := B.c 1 rfl; have f1 := B.f 1 rfl; have o2 := B.c 2 rfl; have f2 := B.f 2 rfl; have o3 := B.c 3 rfl; have f3 := B.f 3 rfl; have o4 := B.c 4 rfl; have f4 := B.f 4 rfl; have o5 := B.c 5 rfl; have f5 := B.f 5 rfl; have o6 := B.c 6 rfl; have f6 := B.f 6 rfl; have o7 := B.c 7 rfl; have f7 := B.f 7 rfl; have o8 := B.c 8 rfl; have f8 := B.f 8 rfl; have o9 := B.c 9 rfl; have f9 := B.f 9 rfl; have o10 := B.c 10 rfl; have f10 := B.f 10 rfl; have o11 := B.c 11 rfl; have f11 := B.f 11 rfl; have ol := B.lt
      clear B
      go_wp2
      refine bodyPost_ret (v := PV a b c) (by simp [results, Try.results23, go_sem, o0, o1, o2, o3, o4, o5, o6, o7, o8, o9, o10, o11]) rfl ?_
      exact pt_done hg R K ta tb tc
    · clear SO
      go_wp2_with fail
      refine (wide_any g ao n cap cs _ R).mono ?_
      rintro e w3 ⟨v_, rfl, hv, R1, K1⟩
      replace B := B.kept K1 hne; replace K := K.trans K1
      clear R K1
      have R := R1
      clear R1
      obtain ⟨a, rfl, ta⟩ := wide_W4 hv
      clear hv
      go_wp2_with fail
      refine (wide_any g ao n cap cs _ R).mono ?_
      rintro e w4 ⟨v_, rfl, hv, R1, K1⟩
      replace B := B.kept K1 hne; replace K := K.trans K1
      clear R K1
      have R := R1
      clear R1
      obtain ⟨b, rfl, tb⟩ := wide_W4 hv
      clear hv
      go_wp2_with fail
      refine (wide_any g ao n cap cs _ R).mono ?_
      rintro e w5 ⟨v_, rfl, hv, R1, K1⟩
      replace B := B.kept K1 hne; replace K := K.trans K1
      clear R K1
      have R := R1
      clear R1
      obtain ⟨c, rfl, tc⟩ := wide_W4 hv
      clear hv
      have o0 := B.c 0 rfl; have f0 := B.f 0 rfl; have o1 := B.c 1 rfl; have f1 := B.f 1 rfl; have o2 := B.c 2 rfl; have f2 := B.f 2 rfl; have o3 := B.c 3 rfl; have f3 := B.f 3 rfl; have o4 := B.c 4 rfl; have f4 := B.f 4 rfl; have o5 := B.c 5 rfl; have f5 := B.f 5 rfl; have o6 := B.c 6 rfl; have f6 := B.f 6 rfl; have o7 := B.c 7 rfl; have f7 := B.f 7 rfl; have o8 := B.c 8 rfl; have f8 := B.f 8 rfl; have o9 := B.c 9 rfl; have f9 := B.f 9 rfl; have o10 := B.c 10 rfl; have f10 := B.f 10 rfl; have o11 := B.c 11 rfl; have f11 := B.f 11 rfl; have ol := B.lt
      clear B
      go_wp2
      refine bodyPost_ret (v := PV a b c) (by simp [results, Try.results23, go_sem, o0, o1, o2, o3, o4, o5, o6, o7, o8, o9, o10, o11]) rfl ?_
      exact pt_done hg R K ta tb tc
  · rcases hx with rfl | rfl | rfl
    · clear x0 x1
      go_wp2_with fail
      refine (near_p40 g ao n cap cs _ R).mono ?_
      rintro e w2 ⟨_, rfl, ⟨y, rfl, y0, y1⟩, R1, K1⟩
      replace B := B.kept K1 hne; replace K := K.trans K1
      clear R K1
      have R := R1
      clear R1
      go_wp2_with fail
      refine (SO _ _ (by first | omega | (unfold wrap64; omega)) (by first | omega | (unfold wrap64; omega))).mono ?_
      rintro e w3 ⟨rfl, hB⟩
      replace R := R.step hB; replace B := B.step hB; replace K := K.trans (Kept.of hB)
      clear hB
      go_wp2_with fail
      refine (near_p40 g ao n cap cs _ R).mono ?_
      rintro e w4 ⟨_, rfl, ⟨y', rfl, y0', y1'⟩, R1, K1⟩
      replace B := B.kept K1 hne; replace K := K.trans K1
      clear R K1
      have R := R1
      clear R1
      go_wp2_with fail
      refine (SO _ _ (by first | omega | (unfold wrap64; omega)) (by first | omega | (unfold wrap64; omega))).mono ?_
      rintro e w5 ⟨rfl, hB⟩
      replace R := R.step hB; replace B := B.step hB; replace K := K.trans (Kept.of hB)
      clear hB
      go_wp2_with fail
      refine (near_p9 g ao n cap cs _ R).mono ?_
      rintro e w6 ⟨_, rfl, ⟨y2, rfl, y20, y21⟩, R1, K1⟩
      replace B := B.kept K1 hne; replace K := K.trans K1
      clear R K1
      have R := R1
      clear R1
      go_wp2_with fail
      refine (SO _ _ (by first | omega | (unfold wrap64; omega)) (by first | omega | (unfold wrap64; omega))).mono ?_
      rintro e w7 ⟨rfl, hB⟩
      replace R := R.step hB; replace B := B.step hB; replace K := K.trans (Kept.of hB)
      clear hB
      have PM := fun w => specPointMake_det y y' (1 + y2) (told_small (small_int (by omega) (by omega))) (told_small (small_int (by omega) (by omega))) (told_small (small_int (by omega) (by omega))) w
      obtain ⟨a, b, c, tt, hpm, ta, tb, tc⟩ := pmV_pt y y' (1 + y2)
      rw [hpm] at PM
      clear hpm
      go_wp2_with fail
      refine (PM _).mono ?_
      rintro e w8 ⟨rfl, hB⟩
      replace R := R.step hB; replace B := B.step hB; replace K := K.trans (Kept.of hB)
      clear hB
      clear PM
      replace R := R.alloc (.cells #[.int .u64 (ww3 a), .int .u64 (ww2 a), .int .u64 (ww1 a), .int .u64 (ww0 a), .int .u64 (ww3 b), .int .u64 (ww2 b), .int .u64 (ww1 b), .int .u64 (ww0 b), .int .u64 (ww3 c), .int .u64 (ww2 c), .int .u64 (ww1 c), .int .u64 (ww0 c)] 28); replace B := B.alloc (.cells #[.int .u64 (ww3 a), .int .u64 (ww2 a), .int .u64 (ww1 a), .int .u64 (ww0 a), .int .u64 (ww3 b), .int .u64 (ww2 b), .int .u64 (ww1 b), .int .u64 (ww0 b), .int .u64 (ww3 c), .int .u64 (ww2 c), .int .u64 (ww1 c), .int .u64 (ww0 c)] 28); replace K := K.alloc (.cells #[.int .u64 (ww3 a), .int .u64 (ww2 a), .int .u64 (ww1 a), .int .u64 (ww0 a), .int .u64 (ww3 b), .int .u64 (ww2 b), .int .u64 (ww1 b), .int .u64 (ww0 b), .int .u64 (ww3 c), .int .u64 (ww2 c), .int .u64 (ww1 c), .int .u64 (ww0 c)] 28)
      have o0 := B.c 0 rfl; have f0 := B.f 0 rfl; have o1 := B.c 1 rfl; have f1 := B.f 1 rfl; have o2 := B.c 2 rfl; have f2 := B.f 2 rfl; have o3 := B.c 3 rfl; have f3 := B.f 3 rfl; have o4 := B.c 4 rfl; have f4 := B.f 4 rfl; have o5 := B.c 5 rfl; have f5 := B.f 5 rfl; have o6 := B.c 6 rfl; have f6 := B.f 6 rfl; have o7 := B.c 7 rfl; have f7 := B.f 7 rfl; have o8 := B.c 8 rfl; have f8 := B.f 8 rfl; have o9 := B.c 9 rfl; have f9 := B.f 9 rfl; have o10 := B.c 10 rfl; have f10 := B.f 10 rfl; have o11 := B.c 11 rfl; have f11 := B.f 11 rfl; have ol := B.lt
      clear B
      go_wp2
      refine bodyPost_ret (v := PV a b c) (by simp [results, Try.results23, go_sem, o0, o1, o2, o3, o4, o5, o6, o7, o8, o9, o10, o11]) rfl ?_
      exact pt_done hg R K ta tb tc
    · clear x0 x1
      go_wp2_with fail
      refine (near_p40 g ao n cap cs _ R).mono ?_
      rintro e w2 ⟨_, rfl, ⟨y, rfl, y0, y1⟩, R1, K1⟩
      replace B := B.kept K1 hne; replace K := K.trans K1
      clear R K1
      have R := R1
      clear R1
      go_wp2_with fail
      refine (SO _ _ (by first | omega | (unfold wrap64; omega)) (by first | omega | (unfold wrap64; omega))).mono ?_
      rintro e w3 ⟨rfl, hB⟩
      replace R := R.step hB; replace B := B.step hB; replace K := K.trans (Kept.of hB)
      clear hB
      go_wp2_with fail
      refine (near_p40 g ao n cap cs _ R).mono ?_
      rintro e w4 ⟨_, rfl, ⟨y', rfl, y0', y1'⟩, R1, K1⟩
      replace B := B.kept K1 hne; replace K := K.trans K1
      clear R K1
      have R := R1
      clear R1
      go_wp2_with fail
      refine (SO _ _ (by first | omega | (unfold wrap64; omega)) (by first | omega | (unfold wrap64; omega))).mono ?_
      rintro e w5 ⟨rfl, hB⟩
      replace R := R.step hB; replace B := B.step hB; replace K := K.trans (Kept.of hB)
      clear hB
      go_wp2_with fail
      refine (near_p9 g ao n cap cs _ R).mono ?_
      rintro e w6 ⟨_, rfl, ⟨y2, rfl, y20, y21⟩, R1, K1⟩
      replace B := B.kept K1 hne; replace K := K.trans K1
      clear R K1
      have R := R1
      clear R1
      go_wp2_with fail
      refine (SO _ _ (by first | omega | (unfold wrap64; omega)) (by first | omega | (unfold wrap64; omega))).mono ?_
      rintro e w7 ⟨rfl, hB⟩
      replace R := R.step hB; replace B := B.step hB; replace K := K.trans (Kept.of hB)
      clear hB
      have PM := fun w => specPointMake_det y y' (1 + y2) (told_small (small_int (by omega) (by omega))) (told_small (small_int (by omega) (by omega))) (told_small (small_int (by omega) (by omega))) w
      obtain ⟨a, b, c, tt, hpm, ta, tb, tc⟩ := pmV_pt y y' (1 + y2)
      rw [hpm] at PM
      clear hpm
      go_wp2_with fail
      refine (PM _).mono ?_
      rintro e w8 ⟨rfl, hB⟩
      replace R := R.step hB; replace B := B.step hB; replace K := K.trans (Kept.of hB)
      clear hB
      clear PM
      replace R := R.alloc (.cells #[.int .u64 (ww3 a), .int .u64 (ww2 a), .int .u64 (ww1 a), .int .u64 (ww0 a), .int .u64 (ww3 b), .int .u64 (ww2 b), .int .u64 (ww1 b), .int .u64 (ww0 b), .int .u64 (ww3 c), .int .u64 (ww2 c), .int .u64 (ww1 c), .int .u64 (ww0 c)] 28); replace B := B.alloc (.cells #[.int .u64 (ww3 a), .int .u64 (ww2 a), .int .u64 (ww1 a), .int .u64 (ww0 a), .int .u64 (ww3 b), .int .u64 (ww2 b), .int .u64 (ww1 b), .int .u64 (ww0 b), .int .u64 (ww3 c), .int .u64 (ww2 c), .int .u64 (ww1 c), .int .u64 (ww0 c)] 28); replace K := K.alloc (.cells #[.int .u64 (ww3 a), .int .u64 (ww2 a), .int .u64 (ww1 a), .int .u64 (ww0 a), .int .u64 (ww3 b), .int .u64 (ww2 b), .int .u64 (ww1 b), .int .u64 (ww0 b), .int .u64 (ww3 c), .int .u64 (ww2 c), .int .u64 (ww1 c), .int .u64 (ww0 c)] 28)
      have o0 := B.c 0 rfl; have f0 := B.f 0 rfl; have o1 := B.c 1 rfl; have f1 := B.f 1 rfl; have o2 := B.c 2 rfl; have f2 := B.f 2 rfl; have o3 := B.c 3 rfl; have f3 := B.f 3 rfl; have o4 := B.c 4 rfl; have f4 := B.f 4 rfl; have o5 := B.c 5 rfl; have f5 := B.f 5 rfl; have o6 := B.c 6 rfl; have f6 := B.f 6 rfl; have o7 := B.c 7 rfl; have f7 := B.f 7 rfl; have o8 := B.c 8 rfl; have f8 := B.f 8 rfl; have o9 := B.c 9 rfl; have f9 := B.f 9 rfl; have o10 := B.c 10 rfl; have f10 := B.f 10 rfl; have o11 := B.c 11 rfl; have f11 := B.f 11 rfl; have ol := B.lt
      clear B
      go_wp2
      refine bodyPost_ret (v := PV a b c) (by simp [results, Try.results23, go_sem, o0, o1, o2, o3, o4, o5, o6, o7, o8, o9, o10, o11]) rfl ?_
      exact pt_done hg R K ta tb tc
    · clear x0 x1
      go_wp2_with fail
      refine (near_p40 g ao n cap cs _ R).mono ?_
      rintro e w2 ⟨_, rfl, ⟨y, rfl, y0, y1⟩, R1, K1⟩
      replace B := B.kept K1 hne; replace K := K.trans K1
      clear R K1
      have R := R1
      clear R1
      go_wp2_with fail
      refine (SO _ _ (by first | omega | (unfold wrap64; omega)) (by first | omega | (unfold wrap64; omega))).mono ?_
      rintro e w3 ⟨rfl, hB⟩
      replace R := R.step hB; replace B := B.step hB; replace K := K.trans (Kept.of hB)
      clear hB
      go_wp2_with fail
      refine (near_p40 g ao n cap cs _ R).mono ?_
      rintro e w4 ⟨_, rfl, ⟨y', rfl, y0', y1'⟩, R1, K1⟩
      replace B := B.kept K1 hne; replace K := K.trans K1
      clear R K1
      have R := R1
      clear R1
      go_wp2_with fail
      refine (SO _ _ (by first | omega | (unfold wrap64; omega)) (by first | omega | (unfold wrap64; omega))).mono ?_
      rintro e w5 ⟨rfl, hB⟩
      replace R := R.step hB; replace B := B.step hB; replace K := K.trans (Kept.of hB)
      clear hB
      go_wp2_with fail
      refine (near_p9 g ao n cap cs _ R).mono ?_
      rintro e w6 ⟨_, rfl, ⟨y2, rfl, y20, y21⟩, R1, K1⟩
      replace B := B.kept K1 hne; replace K := K.trans K1
      clear R K1
      have R := R1
      clear R1
      go_wp2_with fail
      refine (SO _ _ (by first | omega | (unfold wrap64; omega)) (by first | omega | (unfold wrap64; omega))).mono ?_
      rintro e w7 ⟨rfl, hB⟩
      replace R := R.step hB; replace B := B.step hB; replace K := K.trans (Kept.of hB)
      clear hB
      have PM := fun w => specPointMake_det y y' (1 + y2) (told_small (small_int (by omega) (by omega))) (told_small (small_int (by omega) (by omega))) (told_small (small_int (by omega) (by omega))) w
      obtain ⟨a, b, c, tt, hpm, ta, tb, tc⟩ := pmV_pt y y' (1 + y2)
      rw [hpm] at PM
      clear hpm
      go_wp2_with fail
      refine (PM _).mono ?_
      rintro e w8 ⟨rfl, hB⟩
      replace R := R.step hB; replace B := B.step hB; replace K := K.trans (Kept.of hB)
      clear hB
      clear PM
      replace R := R.alloc (.cells #[.int .u64 (ww3 a), .int .u64 (ww2 a), .int .u64 (ww1 a), .int .u64 (ww0 a), .int .u64 (ww3 b), .int .u64 (ww2 b), .int .u64 (ww1 b), .int .u64 (ww0 b), .int .u64 (ww3 c), .int .u64 (ww2 c), .int .u64 (ww1 c), .int .u64 (ww0 c)] 28); replace B := B.alloc (.cells #[.int .u64 (ww3 a), .int .u64 (ww2 a), .int .u64 (ww1 a), .int .u64 (ww0 a), .int .u64 (ww3 b), .int .u64 (ww2 b), .int .u64 (ww1 b), .int .u64 (ww0 b), .int .u64 (ww3 c), .int .u64 (ww2 c), .int .u64 (ww1 c), .int .u64 (ww0 c)] 28); replace K := K.alloc (.cells #[.int .u64 (ww3 a), .int .u64 (ww2 a), .int .u64 (ww1 a), .int .u64 (ww0 a), .int .u64 (ww3 b), .int .u64 (ww2 b), .int .u64 (ww1 b), .int .u64 (ww0 b), .int .u64 (ww3 c), .int .u64 (ww2 c), .int .u64 (ww1 c), .int .u64 (ww0 c)] 28)
      have o0 := B.c 0 rfl; have f0 := B.f 0 rfl; have o1 := B.c 1 rfl; have f1 := B.f 1 rfl; have o2 := B.c 2 rfl; have f2 := B.f 2 rfl; have o3 := B.c 3 rfl; have f3 := B.f 3 rfl; have o4 := B.c 4 rfl; have f4 := B.f 4 rfl; have o5 := B.c 5 rfl; have f5 := B.f 5 rfl; have o6 := B.c 6 rfl; have f6 := B.f 6 rfl; have o7 := B.c 7 rfl; have f7 := B.f 7 rfl; have o8 := B.c 8 rfl; have f8 := B.f 8 rfl; have o9 := B.c 9 rfl; have f9 := B.f 9 rfl; have o10 := B.c 10 rfl; have f10 := B.f 10 rfl; have o11 := B.c 11 rfl; have f11 := B.f 11 rfl; have ol := B.lt
      clear B
      go_wp2
      refine bodyPost_ret (v := PV a b c) (by simp [results, Try.results23, go_sem, o0, o1, o2, o3, o4, o5, o6, o7, o8, o9, o10, o11]) rfl ?_
      exact pt_done hg R K ta tb tc
  · clear SO x0 x1
    go_wp2_with fail
    refine (near_pm g ao n cap cs _ R).mono ?_
    rintro e w2 ⟨_, rfl, ⟨y, rfl, y0, y1⟩, R1, K1⟩
    replace B := B.kept K1 hne; replace K := K.trans K1
    clear R K1
    have R := R1
    clear R1
    go_wp2_with fail
    refine (near_pm g ao n cap cs _ R).mono ?_
    rintro e w3 ⟨_, rfl, ⟨y', rfl, y0', y1'⟩, R1, K1⟩
    replace B := B.kept K1 hne; replace K := K.trans K1
    clear R K1
    have R := R1
    clear R1
    go_wp2_with fail
    refine (specPointOf_any y y' (by omega) (by omega) (by omega) (by omega) _).mono ?_
    rintro e w4 ⟨rfl, hB⟩
    replace R := R.step hB; replace B := B.step hB; replace K := K.trans (Kept.of hB)
    clear hB
    have o0 := B.c 0 rfl; have f0 := B.f 0 rfl; have o1 := B.c 1 rfl; have f1 := B.f 1 rfl; have o2 := B.c 2 rfl; have f2 := B.f 2 rfl; have o3 := B.c 3 rfl; have f3 := B.f 3 rfl; have o4 := B.c 4 rfl; have f4 := B.f 4 rfl; have o5 := B.c 5 rfl; have f5 := B.f 5 rfl; have o6 := B.c 6 rfl; have f6 := B.f 6 rfl; have o7 := B.c 7 rfl; have f7 := B.f 7 rfl; have o8 := B.c 8 rfl; have f8 := B.f 8 rfl; have o9 := B.c 9 rfl; have f9 := B.f 9 rfl; have o10 := B.c 10 rfl; have f10 := B.f 10 rfl; have o11 := B.c 11 rfl; have f11 := B.f 11 rfl; have ol := B.lt
    clear B
    go_wp2
    refine bodyPost_ret (v := PV y y' 1) (by simp [results, Try.results23, go_sem, o0, o1, o2, o3, o4, o5, o6, o7, o8, o9, o10, o11]) rfl ?_
    exact pt_done hg R K (told_small (small_int (by omega) (by omega))) (told_small (small_int (by omega) (by omega))) (by decide)
  · clear SO x0 x1
    rcases hx with rfl | rfl | rfl | rfl
    all_goals (
      go_wp2_with fail
      refine (spot_any g ao n cap cs _ R).mono ?_
      rintro e w2 ⟨_, rfl, ⟨y, y', rfl, y0, y1, y0', y1'⟩, R1, K1⟩
      replace B := B.kept K1 hne; replace K := K.trans K1
      clear R K1
      have R := R1
      clear R1
      go_wp2_with fail
      refine (specPointOf_any y y' (by omega) (by omega) (by omega) (by omega) _).mono ?_
      rintro e w3 ⟨rfl, hB⟩
      replace R := R.step hB; replace B := B.step hB; replace K := K.trans (Kept.of hB)
      clear hB
      have o0 := B.c 0 rfl; have f0 := B.f 0 rfl; have o1 := B.c 1 rfl; have f1 := B.f 1 rfl; have o2 := B.c 2 rfl; have f2 := B.f 2 rfl; have o3 := B.c 3 rfl; have f3 := B.f 3 rfl; have o4 := B.c 4 rfl; have f4 := B.f 4 rfl; have o5 := B.c 5 rfl; have f5 := B.f 5 rfl; have o6 := B.c 6 rfl; have f6 := B.f 6 rfl; have o7 := B.c 7 rfl; have f7 := B.f 7 rfl; have o8 := B.c 8 rfl; have f8 := B.f 8 rfl; have o9 := B.c 9 rfl; have f9 := B.f 9 rfl; have o10 := B.c 10 rfl; have f10 := B.f 10 rfl; have o11 := B.c 11 rfl; have f11 := B.f 11 rfl; have ol := B.lt
      clear B
      go_wp2
      refine bodyPost_ret (v := PV y y' 1) (by simp [results, Try.results23, go_sem, o0, o1, o2, o3, o4, o5, o6, o7, o8, o9, o10, o11]) rfl ?_
      exact pt_done hg R K (told_small (small_int (by omega) (by omega))) (told_small (small_int (by omega) (by omega))) (by decide))
end Go.Proofs.Ytnflhnfjlbjgdaa

/- Two points drawn from a code. -/
namespace Go.Proofs.Ytnflhnfjlbjgdaa
open Go.RowKit
/-- Two points, whatever their numbers. -/
def TwoPt (w : World) (e : Ending) (w' : World) : Prop := ∃ x y z u v t : Int, e = .returned (.tuple #[PV x y z, PV u v t]) ∧ told x = true ∧ told y = true ∧ told z = true ∧ told u = true ∧ told v = true ∧ told t = true ∧ Below w.heap.size w w'
set_option maxRecDepth 100000 in
set_option maxHeartbeats 4000000 in
theorem drawMiddle_any (ao : Option Addr) (n cap : Nat) (cs : List Int) (w : World) (h : Code w ao n cs) :
    Calls Try.prog 10 #[.slice ao n cap] w (TwoPt w) := by
  have B0 := (Blk.new w [.int .u64 0, .int .u64 0, .int .u64 0, .int .u64 0, .int .u64 0, .int .u64 0, .int .u64 0, .int .u64 0, .int .u64 0, .int .u64 0, .int .u64 0, .int .u64 0] 28 rfl).alloc (.cells #[.int .u64 0, .int .u64 0, .int .u64 0, .int .u64 0, .int .u64 0, .int .u64 0, .int .u64 0, .int .u64 0, .int .u64 0, .int .u64 0, .int .u64 0, .int .u64 0] 28)
  have B1 := Blk.new (w.alloc (.cells #[.int .u64 0, .int .u64 0, .int .u64 0, .int .u64 0, .int .u64 0, .int .u64 0, .int .u64 0, .int .u64 0, .int .u64 0, .int .u64 0, .int .u64 0, .int .u64 0] 28)) [.int .u64 0, .int .u64 0, .int .u64 0, .int .u64 0, .int .u64 0, .int .u64 0, .int .u64 0, .int .u64 0, .int .u64 0, .int .u64 0, .int .u64 0, .int .u64 0] 28 (g := w.heap.size + 1) (by simp)
  have HB : Below w.heap.size w ((w.alloc (.cells #[.int .u64 0, .int .u64 0, .int .u64 0, .int .u64 0, .int .u64 0, .int .u64 0, .int .u64 0, .int .u64 0, .int .u64 0, .int .u64 0, .int .u64 0, .int .u64 0] 28)).alloc (.cells #[.int .u64 0, .int .u64 0, .int .u64 0, .int .u64 0, .int .u64 0, .int .u64 0, .int .u64 0, .int .u64 0, .int .u64 0, .int .u64 0, .int .u64 0, .int .u64 0] 28)) := ((Below.refl _ _).alloc (Nat.le_refl _) _).alloc (by simp) _
  replace h := h.below HB
  go_enter Try.func10, Try.ntmps10
  go_wp2_with fail
  refine (open_any ao n cap cs _ h).mono ?_
  rintro e w1 ⟨G, rfl, hG, R, hB⟩
  simp at hG
  have h0 : w.heap.size ≠ G := by omega
  have h1 : w.heap.size + 1 ≠ G := by omega
  replace B0 := B0.step hB; replace B1 := B1.step hB
  replace HB : Below w.heap.size w w1 := HB.trans (hB.mono HB.size)
  have K := Kept.refl G w1
  have hl := HB.size
  clear h hB
  go_wp2_with fail
  refine (point_any G ao n cap cs _ R).mono ?_
  rintro e w2 ⟨_, rfl, ⟨x, y, z, rfl, tx, ty, tz⟩, R1, K1⟩
  replace B0 := B0.kept K1 h0; replace B1 := B1.kept K1 h1; replace K := K.trans K1
  clear R K1
  have R := R1
  clear R1
  go_wp2_with fail
  refine (point_any G ao n cap cs _ R).mono ?_
  rintro e w3 ⟨_, rfl, ⟨u, v, t, rfl, tu, tv, tt⟩, R1, K1⟩
  replace B0 := B0.kept K1 h0; replace B1 := B1.kept K1 h1; replace K := K.trans K1
  clear R K1
  have R := R1
  clear R1
  replace HB : Below w.heap.size w w3 := HB.trans (K.below (by omega) hl)
  have oc0 := B0.c 0 rfl; have of0 := B0.f 0 rfl; have oc1 := B0.c 1 rfl; have of1 := B0.f 1 rfl; have oc2 := B0.c 2 rfl; have of2 := B0.f 2 rfl; have oc3 := B0.c 3 rfl; have of3 := B0.f 3 rfl; have oc4 := B0.c 4 rfl; have of4 := B0.f 4 rfl; have oc5 := B0.c 5 rfl; have of5 := B0.f 5 rfl; have oc6 := B0.c 6 rfl; have of6 := B0.f 6 rfl; have oc7 := B0.c 7 rfl; have of7 := B0.f 7 rfl; have oc8 := B0.c 8 rfl; have of8 := B0.f 8 rfl; have oc9 := B0.c 9 rfl; have of9 := B0.f 9 rfl; have oc10 := B0.c 10 rfl; have of10 := B0.f 10 rfl; have oc11 := B0.c 11 rfl; have of11 := B0.f 11 rfl; have kc0 := B1.c 0 rfl; have kf0 := B1.f 0 rfl; have kc1 := B1.c 1 rfl; have kf1 := B1.f 1 rfl; have kc2 := B1.c 2 rfl; have kf2 := B1.f 2 rfl; have kc3 := B1.c 3 rfl; have kf3 := B1.f 3 rfl; have kc4 := B1.c 4 rfl; have kf4 := B1.f 4 rfl; have kc5 := B1.c 5 rfl; have kf5 := B1.f 5 rfl; have kc6 := B1.c 6 rfl; have kf6 := B1.f 6 rfl; have kc7 := B1.c 7 rfl; have kf7 := B1.f 7 rfl; have kc8 := B1.c 8 rfl; have kf8 := B1.f 8 rfl; have kc9 := B1.c 9 rfl; have kf9 := B1.f 9 rfl; have kc10 := B1.c 10 rfl; have kf10 := B1.f 10 rfl; have kc11 := B1.c 11 rfl; have kf11 := B1.f 11 rfl; have ol := B0.lt; have kl := B1.lt
  clear K R
  go_wp2
  have F0 : Blk ((((((((((((((((((((((((w3.setCell ⟨w.heap.size, 0, none⟩ (.int .u64 (ww3 x))).setCell ⟨w.heap.size, 1, none⟩ (.int .u64 (ww2 x))).setCell ⟨w.heap.size, 2, none⟩ (.int .u64 (ww1 x))).setCell ⟨w.heap.size, 3, none⟩ (.int .u64 (ww0 x))).setCell ⟨w.heap.size, 4, none⟩ (.int .u64 (ww3 y))).setCell ⟨w.heap.size, 5, none⟩ (.int .u64 (ww2 y))).setCell ⟨w.heap.size, 6, none⟩ (.int .u64 (ww1 y))).setCell ⟨w.heap.size, 7, none⟩ (.int .u64 (ww0 y))).setCell ⟨w.heap.size, 8, none⟩ (.int .u64 (ww3 z))).setCell ⟨w.heap.size, 9, none⟩ (.int .u64 (ww2 z))).setCell ⟨w.heap.size, 10, none⟩ (.int .u64 (ww1 z))).setCell ⟨w.heap.size, 11, none⟩ (.int .u64 (ww0 z))).setCell ⟨(w.heap.size + 1), 0, none⟩ (.int .u64 (ww3 u))).setCell ⟨(w.heap.size + 1), 1, none⟩ (.int .u64 (ww2 u))).setCell ⟨(w.heap.size + 1), 2, none⟩ (.int .u64 (ww1 u))).setCell ⟨(w.heap.size + 1), 3, none⟩ (.int .u64 (ww0 u))).setCell ⟨(w.heap.size + 1), 4, none⟩ (.int .u64 (ww3 v))).setCell ⟨(w.heap.size + 1), 5, none⟩ (.int .u64 (ww2 v))).setCell ⟨(w.heap.size + 1), 6, none⟩ (.int .u64 (ww1 v))).setCell ⟨(w.heap.size + 1), 7, none⟩ (.int .u64 (ww0 v))).setCell ⟨(w.heap.size + 1), 8, none⟩ (.int .u64 (ww3 t))).setCell ⟨(w.heap.size + 1), 9, none⟩ (.int .u64 (ww2 t))).setCell ⟨(w.heap.size + 1), 10, none⟩ (.int .u64 (ww1 t))).setCell ⟨(w.heap.size + 1), 11, none⟩ (.int .u64 (ww0 t))) w.heap.size [.int .u64 (ww3 x), .int .u64 (ww2 x), .int .u64 (ww1 x), .int .u64 (ww0 x), .int .u64 (ww3 y), .int .u64 (ww2 y), .int .u64 (ww1 y), .int .u64 (ww0 y), .int .u64 (ww3 z), .int .u64 (ww2 z), .int .u64 (ww1 z), .int .u64 (ww0 z)] := (B0.stored12 (.int .u64 (ww3 x)) (.int .u64 (ww2 x)) (.int .u64 (ww1 x)) (.int .u64 (ww0 x)) (.int .u64 (ww3 y)) (.int .u64 (ww2 y)) (.int .u64 (ww1 y)) (.int .u64 (ww0 y)) (.int .u64 (ww3 z)) (.int .u64 (ww2 z)) (.int .u64 (ww1 z)) (.int .u64 (ww0 z))).set12 (by omega)
  have F1 : Blk ((((((((((((((((((((((((w3.setCell ⟨w.heap.size, 0, none⟩ (.int .u64 (ww3 x))).setCell ⟨w.heap.size, 1, none⟩ (.int .u64 (ww2 x))).setCell ⟨w.heap.size, 2, none⟩ (.int .u64 (ww1 x))).setCell ⟨w.heap.size, 3, none⟩ (.int .u64 (ww0 x))).setCell ⟨w.heap.size, 4, none⟩ (.int .u64 (ww3 y))).setCell ⟨w.heap.size, 5, none⟩ (.int .u64 (ww2 y))).setCell ⟨w.heap.size, 6, none⟩ (.int .u64 (ww1 y))).setCell ⟨w.heap.size, 7, none⟩ (.int .u64 (ww0 y))).setCell ⟨w.heap.size, 8, none⟩ (.int .u64 (ww3 z))).setCell ⟨w.heap.size, 9, none⟩ (.int .u64 (ww2 z))).setCell ⟨w.heap.size, 10, none⟩ (.int .u64 (ww1 z))).setCell ⟨w.heap.size, 11, none⟩ (.int .u64 (ww0 z))).setCell ⟨(w.heap.size + 1), 0, none⟩ (.int .u64 (ww3 u))).setCell ⟨(w.heap.size + 1), 1, none⟩ (.int .u64 (ww2 u))).setCell ⟨(w.heap.size + 1), 2, none⟩ (.int .u64 (ww1 u))).setCell ⟨(w.heap.size + 1), 3, none⟩ (.int .u64 (ww0 u))).setCell ⟨(w.heap.size + 1), 4, none⟩ (.int .u64 (ww3 v))).setCell ⟨(w.heap.size + 1), 5, none⟩ (.int .u64 (ww2 v))).setCell ⟨(w.heap.size + 1), 6, none⟩ (.int .u64 (ww1 v))).setCell ⟨(w.heap.size + 1), 7, none⟩ (.int .u64 (ww0 v))).setCell ⟨(w.heap.size + 1), 8, none⟩ (.int .u64 (ww3 t))).setCell ⟨(w.heap.size + 1), 9, none⟩ (.int .u64 (ww2 t))).setCell ⟨(w.heap.size + 1), 10, none⟩ (.int .u64 (ww1 t))).setCell ⟨(w.heap.size + 1), 11, none⟩ (.int .u64 (ww0 t))) (w.heap.size + 1) [.int .u64 (ww3 u), .int .u64 (ww2 u), .int .u64 (ww1 u), .int .u64 (ww0 u), .int .u64 (ww3 v), .int .u64 (ww2 v), .int .u64 (ww1 v), .int .u64 (ww0 v), .int .u64 (ww3 t), .int .u64 (ww2 t), .int .u64 (ww1 t), .int .u64 (ww0 t)] := (B1.set12 (by omega)).stored12 (.int .u64 (ww3 u)) (.int .u64 (ww2 u)) (.int .u64 (ww1 u)) (.int .u64 (ww0 u)) (.int .u64 (ww3 v)) (.int .u64 (ww2 v)) (.int .u64 (ww1 v)) (.int .u64 (ww0 v)) (.int .u64 (ww3 t)) (.int .u64 (ww2 t)) (.int .u64 (ww1 t)) (.int .u64 (ww0 t))
  have HBF : Below w.heap.size w ((((((((((((((((((((((((w3.setCell ⟨w.heap.size, 0, none⟩ (.int .u64 (ww3 x))).setCell ⟨w.heap.size, 1, none⟩ (.int .u64 (ww2 x))).setCell ⟨w.heap.size, 2, none⟩ (.int .u64 (ww1 x))).setCell ⟨w.heap.size, 3, none⟩ (.int .u64 (ww0 x))).setCell ⟨w.heap.size, 4, none⟩ (.int .u64 (ww3 y))).setCell ⟨w.heap.size, 5, none⟩ (.int .u64 (ww2 y))).setCell ⟨w.heap.size, 6, none⟩ (.int .u64 (ww1 y))).setCell ⟨w.heap.size, 7, none⟩ (.int .u64 (ww0 y))).setCell ⟨w.heap.size, 8, none⟩ (.int .u64 (ww3 z))).setCell ⟨w.heap.size, 9, none⟩ (.int .u64 (ww2 z))).setCell ⟨w.heap.size, 10, none⟩ (.int .u64 (ww1 z))).setCell ⟨w.heap.size, 11, none⟩ (.int .u64 (ww0 z))).setCell ⟨(w.heap.size + 1), 0, none⟩ (.int .u64 (ww3 u))).setCell ⟨(w.heap.size + 1), 1, none⟩ (.int .u64 (ww2 u))).setCell ⟨(w.heap.size + 1), 2, none⟩ (.int .u64 (ww1 u))).setCell ⟨(w.heap.size + 1), 3, none⟩ (.int .u64 (ww0 u))).setCell ⟨(w.heap.size + 1), 4, none⟩ (.int .u64 (ww3 v))).setCell ⟨(w.heap.size + 1), 5, none⟩ (.int .u64 (ww2 v))).setCell ⟨(w.heap.size + 1), 6, none⟩ (.int .u64 (ww1 v))).setCell ⟨(w.heap.size + 1), 7, none⟩ (.int .u64 (ww0 v))).setCell ⟨(w.heap.size + 1), 8, none⟩ (.int .u64 (ww3 t))).setCell ⟨(w.heap.size + 1), 9, none⟩ (.int .u64 (ww2 t))).setCell ⟨(w.heap.size + 1), 10, none⟩ (.int .u64 (ww1 t))).setCell ⟨(w.heap.size + 1), 11, none⟩ (.int .u64 (ww0 t))) := Below.set12 (by omega) (Below.set12 (Nat.le_refl _) HB)
  clear B0 B1 HB
  generalize ((((((((((((((((((((((((w3.setCell ⟨w.heap.size, 0, none⟩ (.int .u64 (ww3 x))).setCell ⟨w.heap.size, 1, none⟩ (.int .u64 (ww2 x))).setCell ⟨w.heap.size, 2, none⟩ (.int .u64 (ww1 x))).setCell ⟨w.heap.size, 3, none⟩ (.int .u64 (ww0 x))).setCell ⟨w.heap.size, 4, none⟩ (.int .u64 (ww3 y))).setCell ⟨w.heap.size, 5, none⟩ (.int .u64 (ww2 y))).setCell ⟨w.heap.size, 6, none⟩ (.int .u64 (ww1 y))).setCell ⟨w.heap.size, 7, none⟩ (.int .u64 (ww0 y))).setCell ⟨w.heap.size, 8, none⟩ (.int .u64 (ww3 z))).setCell ⟨w.heap.size, 9, none⟩ (.int .u64 (ww2 z))).setCell ⟨w.heap.size, 10, none⟩ (.int .u64 (ww1 z))).setCell ⟨w.heap.size, 11, none⟩ (.int .u64 (ww0 z))).setCell ⟨(w.heap.size + 1), 0, none⟩ (.int .u64 (ww3 u))).setCell ⟨(w.heap.size + 1), 1, none⟩ (.int .u64 (ww2 u))).setCell ⟨(w.heap.size + 1), 2, none⟩ (.int .u64 (ww1 u))).setCell ⟨(w.heap.size + 1), 3, none⟩ (.int .u64 (ww0 u))).setCell ⟨(w.heap.size + 1), 4, none⟩ (.int .u64 (ww3 v))).setCell ⟨(w.heap.size + 1), 5, none⟩ (.int .u64 (ww2 v))).setCell ⟨(w.heap.size + 1), 6, none⟩ (.int .u64 (ww1 v))).setCell ⟨(w.heap.size + 1), 7, none⟩ (.int .u64 (ww0 v))).setCell ⟨(w.heap.size + 1), 8, none⟩ (.int .u64 (ww3 t))).setCell ⟨(w.heap.size + 1), 9, none⟩ (.int .u64 (ww2 t))).setCell ⟨(w.heap.size + 1), 10, none⟩ (.int .u64 (ww1 t))).setCell ⟨(w.heap.size + 1), 11, none⟩ (.int .u64 (ww0 t))) = WF at *
  have m0 := F0.c 0 rfl; have n0 := F1.c 0 rfl; have m1 := F0.c 1 rfl; have n1 := F1.c 1 rfl; have m2 := F0.c 2 rfl; have n2 := F1.c 2 rfl; have m3 := F0.c 3 rfl; have n3 := F1.c 3 rfl; have m4 := F0.c 4 rfl; have n4 := F1.c 4 rfl; have m5 := F0.c 5 rfl; have n5 := F1.c 5 rfl; have m6 := F0.c 6 rfl; have n6 := F1.c 6 rfl; have m7 := F0.c 7 rfl; have n7 := F1.c 7 rfl; have m8 := F0.c 8 rfl; have n8 := F1.c 8 rfl; have m9 := F0.c 9 rfl; have n9 := F1.c 9 rfl; have m10 := F0.c 10 rfl; have n10 := F1.c 10 rfl; have m11 := F0.c 11 rfl; have n11 := F1.c 11 rfl
  refine bodyPost_ret (v := .tuple #[PV x y z, PV u v t]) (by simp [results, Try.results10, go_sem, m0, n0, m1, n1, m2, n2, m3, n3, m4, n4, m5, n5, m6, n6, m7, n7, m8, n8, m9, n9, m10, n10, m11, n11]) rfl ?_
  exact ⟨x, y, z, u, v, t, rfl, tx, ty, tz, tu, tv, tt, by first | exact HBF | exact HBF.drew⟩
end Go.Proofs.Ytnflhnfjlbjgdaa
