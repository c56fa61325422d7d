/- Part 3 of the walks that the proof leans on. -/
import Derived.Test.YteakhlipmmfilaaGreatQy2
import Derived.Deep.OwnRows
import Derived.Deep.RegionHeld3
import Derived.Deep.RegionWith
import Derived.Test.YteakhlipmmfilaaGreatQy1
namespace Go.Proofs.YteakhlipmmfilaaGreat
open Go.RowKit
abbrev Sp (x y : Int) : Value := .agg #[.int .i64 x, .int .i64 y]
def spotOk (x y : Int) : Bool := decide (-1000000 ≤ x ∧ x ≤ 1000000 ∧ -1000000 ≤ y ∧ y ≤ 1000000)
theorem l1In_any (x a b : Int) (c : Bool) (hc : decide (a ≤ x ∧ x ≤ b) = c) (w : World) : Calls Tryz.prog 188 #[.int .i64 x, .int .i64 a, .int .i64 b] w (BoolP c w) := by
 go_enter Tryz.func188, Tryz.ntmps188
 go_wp2
 all_goals go_ret
 all_goals exact ⟨ret_bool (by subst hc; simp; try omega), Below.refl _ _⟩
theorem implSpotOk_any (x y : Int) (c : Bool) (hc : spotOk x y = c) (w : World) : Calls Tryz.prog 111 #[Sp x y] w (BoolP c w) := by
 go_enter Tryz.func111, Tryz.ntmps111
 go_wp2
 all_goals go_ret
 all_goals exact ⟨ret_bool (by subst hc; unfold spotOk; simp [*]; try omega), (Below.refl _ _).alloc (Nat.le_refl _) _⟩
theorem specSpotOk_any (x y : Int) (c : Bool) (hc : spotOk x y = c) (w : World) : Calls Tryz.prog 164 #[Sp x y] w (BoolP c w) := by
 by_cases hx : -1000000 ≤ x ∧ x ≤ 1000000
 · go_enter Tryz.func164, Tryz.ntmps164
   go_wp2_with fail
   refine (l1In_any _ _ _ true (by simpa using hx) _).mono ?_
   rintro e w1 ⟨rfl, hB⟩
   obtain ⟨hq, _⟩ := bcell hB
   have HB : Below w.heap.size w w1 := ((Below.refl _ _).alloc (Nat.le_refl _) _).trans (hB.mono (by simp))
   clear hB
   go_wp2_with fail
   refine (l1In_any _ _ _ c (by subst hc; unfold spotOk; simp [hx]) _).mono ?_
   rintro e w2 ⟨rfl, hB⟩
   go_wp2
   go_ret
   exact ⟨rfl, HB.trans (hB.mono HB.size)⟩
 · go_enter Tryz.func164, Tryz.ntmps164
   go_wp2_with fail
   refine (l1In_any _ _ _ false (by simpa using hx) _).mono ?_
   rintro e w1 ⟨rfl, hB⟩
   have HB : Below w.heap.size w w1 := ((Below.refl _ _).alloc (Nat.le_refl _) _).trans (hB.mono (by simp))
   clear hB
   go_wp2
   go_ret
   exact ⟨ret_bool (by subst hc; unfold spotOk; simp; omega), HB⟩
def lessI (x y u v : Int) : Bool := decide (x < u ∨ x = u ∧ y < v)
theorem l4Less_any (x y u v : Int) (c : Bool) (hc : lessI x y u v = c) (w : World) : Calls Tryz.prog 64 #[Sp x y, Sp u v] w (BoolP c w) := by
 go_enter Tryz.func64, Tryz.ntmps64
 go_wp2
 all_goals go_ret
 all_goals exact ⟨ret_bool (by subst hc; unfold lessI; simp [*]; try omega), ((Below.refl _ _).alloc (Nat.le_refl _) _).alloc (by simp) _⟩
theorem isAhead_any (x y u v : Int) (c : Bool) (hc : lessI x y u v = c) (w : World) : Calls Tryz.prog 112 #[Sp x y, Sp u v] w (BoolP c w) := by
 go_enter Tryz.func112, Tryz.ntmps112
 go_wp2
 all_goals go_ret
 all_goals exact ⟨ret_bool (by subst hc; unfold lessI; simp [*]; try omega), ((Below.refl _ _).alloc (Nat.le_refl _) _).alloc (by simp) _⟩
abbrev Sg (a b c d : Int) : Value := .agg #[.int .i64 a, .int .i64 b, .int .i64 c, .int .i64 d]
structure Quad (W : World) (g : Nat) (v0 v1 v2 v3 : Value) : Prop where
 c0 : W.cell? ⟨g, 0, none⟩ = some v0
 c1 : W.cell? ⟨g, 1, none⟩ = some v1
 c2 : W.cell? ⟨g, 2, none⟩ = some v2
 c3 : W.cell? ⟨g, 3, none⟩ = some v3
 f0 : W.frozen? ⟨g, 0, none⟩ = false
 f1 : W.frozen? ⟨g, 1, none⟩ = false
 f2 : W.frozen? ⟨g, 2, none⟩ = false
 f3 : W.frozen? ⟨g, 3, none⟩ = false
 lt : g < W.heap.size
theorem Quad.below {W W' : World} {B g : Nat} {v0 v1 v2 v3 : Value} (h : Quad W g v0 v1 v2 v3) (hB : Below B W W') (hg : g < B) : Quad W' g v0 v1 v2 v3 :=
 ⟨(hB.cell (p := ⟨g, 0, none⟩) hg).trans h.c0, (hB.cell (p := ⟨g, 1, none⟩) hg).trans h.c1, (hB.cell (p := ⟨g, 2, none⟩) hg).trans h.c2, (hB.cell (p := ⟨g, 3, none⟩) hg).trans h.c3,
  (hB.frozen (p := ⟨g, 0, none⟩) hg).trans h.f0, (hB.frozen (p := ⟨g, 1, none⟩) hg).trans h.f1, (hB.frozen (p := ⟨g, 2, none⟩) hg).trans h.f2, (hB.frozen (p := ⟨g, 3, none⟩) hg).trans h.f3, Nat.lt_of_lt_of_le h.lt hB.size⟩
theorem Quad.new (W : World) (v0 v1 v2 v3 : Value) (t : TypeId) {g : Nat} (hg : g = W.heap.size) : Quad (W.alloc (.cells #[v0, v1, v2, v3] t)) g v0 v1 v2 v3 := by
 subst hg
 constructor <;> simp [go_sem]
def segOk (a b c d : Int) : Bool := spotOk a b && spotOk c d && lessI a b c d
set_option maxRecDepth 100000 in
theorem specSegOk_any (a b c d : Int) (z : Bool) (hz : segOk a b c d = z) (w : World) : Calls Tryz.prog 132 #[Sg a b c d] w (BoolP z w) := by
 have HB0 : Below w.heap.size w (w.alloc (.cells #[.int .i64 a, .int .i64 b, .int .i64 c, .int .i64 d] 53)) := (Below.refl _ _).alloc (Nat.le_refl _) _
 by_cases hx : spotOk a b = true
 · by_cases hy : spotOk c d = true
   · go_enter Tryz.func132, Tryz.ntmps132
     go_wp2_with fail
     refine (specSpotOk_any _ _ true hx _).mono ?_
     rintro e w1 ⟨rfl, hB⟩
     have HB : Below w.heap.size w w1 := HB0.trans (hB.mono (by simp))
     have q0 : Quad w1 w.heap.size _ _ _ _ := (Quad.new w (.int .i64 a) (.int .i64 b) (.int .i64 c) (.int .i64 d) _ rfl).below hB (by simp)
     obtain ⟨q00, q01, q02, q03, -, -, -, -, q08⟩ := id q0
     clear hB
     go_wp2_with fail
     refine (specSpotOk_any _ _ true hy _).mono ?_
     rintro e w2 ⟨rfl, hB⟩
     have HB2 : Below w.heap.size w w2 := HB.trans (hB.mono HB.size)
     have q2 := q0.below hB q0.lt
     clear q00 q01 q02 q03 q08
     obtain ⟨q00, q01, q02, q03, -, -, -, -, q08⟩ := q2
     clear hB HB
     go_wp2_with fail
     refine (l4Less_any _ _ _ _ z (by rw [← hz]; simp [segOk, hx, hy]) _).mono ?_
     rintro e w3 ⟨rfl, hB⟩
     go_wp2
     go_ret
     exact ⟨rfl, HB2.trans (hB.mono HB2.size)⟩
   · have hy := Bool.eq_false_iff.2 hy
     go_enter Tryz.func132, Tryz.ntmps132
     go_wp2_with fail
     refine (specSpotOk_any _ _ true hx _).mono ?_
     rintro e w1 ⟨rfl, hB⟩
     have HB : Below w.heap.size w w1 := HB0.trans (hB.mono (by simp))
     have q0 : Quad w1 w.heap.size _ _ _ _ := (Quad.new w (.int .i64 a) (.int .i64 b) (.int .i64 c) (.int .i64 d) _ rfl).below hB (by simp)
     obtain ⟨q00, q01, q02, q03, -, -, -, -, q08⟩ := id q0
     clear hB
     go_wp2_with fail
     refine (specSpotOk_any _ _ false hy _).mono ?_
     rintro e w2 ⟨rfl, hB⟩
     have HB2 : Below w.heap.size w w2 := HB.trans (hB.mono HB.size)
     clear hB HB
     go_wp2
     go_ret
     exact ⟨ret_bool (by rw [← hz]; simp [segOk, hx, hy]), HB2⟩
 · have hx := Bool.eq_false_iff.2 hx
   go_enter Tryz.func132, Tryz.ntmps132
   go_wp2_with fail
   refine (specSpotOk_any _ _ false hx _).mono ?_
   rintro e w1 ⟨rfl, hB⟩
   have HB : Below w.heap.size w w1 := HB0.trans (hB.mono (by simp))
   clear hB
   go_wp2
   go_ret
   exact ⟨ret_bool (by rw [← hz]; simp [segOk, hx]), HB⟩
set_option maxRecDepth 100000 in
theorem implSegOk_any (a b c d : Int) (z : Bool) (hz : segOk a b c d = z) (w : World) : Calls Tryz.prog 58 #[Sg a b c d] w (BoolP z w) := by
 have HB0 : Below w.heap.size w (w.alloc (.cells #[.int .i64 a, .int .i64 b, .int .i64 c, .int .i64 d] 53)) := (Below.refl _ _).alloc (Nat.le_refl _) _
 by_cases hx : spotOk a b = true
 · by_cases hy : spotOk c d = true
   · go_enter Tryz.func58, Tryz.ntmps58
     go_wp2_with fail
     refine (implSpotOk_any _ _ true hx _).mono ?_
     rintro e w1 ⟨rfl, hB⟩
     have HB : Below w.heap.size w w1 := HB0.trans (hB.mono (by simp))
     have q0 : Quad w1 w.heap.size _ _ _ _ := (Quad.new w (.int .i64 a) (.int .i64 b) (.int .i64 c) (.int .i64 d) _ rfl).below hB (by simp)
     obtain ⟨q00, q01, q02, q03, -, -, -, -, q08⟩ := id q0
     clear hB
     go_wp2_with fail
     refine (implSpotOk_any _ _ true hy _).mono ?_
     rintro e w2 ⟨rfl, hB⟩
     have HB2 : Below w.heap.size w w2 := HB.trans (hB.mono HB.size)
     have q2 := q0.below hB q0.lt
     clear q00 q01 q02 q03 q08
     obtain ⟨q00, q01, q02, q03, -, -, -, -, q08⟩ := q2
     clear hB HB
     go_wp2_with fail
     refine (isAhead_any _ _ _ _ z (by rw [← hz]; simp [segOk, hx, hy]) _).mono ?_
     rintro e w3 ⟨rfl, hB⟩
     go_wp2
     go_ret
     exact ⟨rfl, HB2.trans (hB.mono HB2.size)⟩
   · have hy := Bool.eq_false_iff.2 hy
     go_enter Tryz.func58, Tryz.ntmps58
     go_wp2_with fail
     refine (implSpotOk_any _ _ true hx _).mono ?_
     rintro e w1 ⟨rfl, hB⟩
     have HB : Below w.heap.size w w1 := HB0.trans (hB.mono (by simp))
     have q0 : Quad w1 w.heap.size _ _ _ _ := (Quad.new w (.int .i64 a) (.int .i64 b) (.int .i64 c) (.int .i64 d) _ rfl).below hB (by simp)
     obtain ⟨q00, q01, q02, q03, -, -, -, -, q08⟩ := id q0
     clear hB
     go_wp2_with fail
     refine (implSpotOk_any _ _ false hy _).mono ?_
     rintro e w2 ⟨rfl, hB⟩
     have HB2 : Below w.heap.size w w2 := HB.trans (hB.mono HB.size)
     clear hB HB
     go_wp2
     go_ret
     exact ⟨ret_bool (by rw [← hz]; simp [segOk, hx, hy]), HB2⟩
 · have hx := Bool.eq_false_iff.2 hx
   go_enter Tryz.func58, Tryz.ntmps58
   go_wp2_with fail
   refine (implSpotOk_any _ _ false hx _).mono ?_
   rintro e w1 ⟨rfl, hB⟩
   have HB : Below w.heap.size w w1 := HB0.trans (hB.mono (by simp))
   clear hB
   go_wp2
   go_ret
   exact ⟨ret_bool (by rw [← hz]; simp [segOk, hx]), HB⟩
theorem Blk.set12 {W : World} {vs : List Value} {v0 v1 v2 v3 v4 v5 v6 v7 v8 v9 v10 v11 : Value} {g g' : Nat} (G : Blk W g' vs) (hg : g' ≠ g) : Blk ((((((((((((W.setCell ⟨g, 0, none⟩ v0).setCell ⟨g, 1, none⟩ v1).setCell ⟨g, 2, none⟩ v2).setCell ⟨g, 3, none⟩ v3).setCell ⟨g, 4, none⟩ v4).setCell ⟨g, 5, none⟩ v5).setCell ⟨g, 6, none⟩ v6).setCell ⟨g, 7, none⟩ v7).setCell ⟨g, 8, none⟩ v8).setCell ⟨g, 9, none⟩ v9).setCell ⟨g, 10, none⟩ v10).setCell ⟨g, 11, none⟩ v11) g' vs :=
 (((((((((((G.setO hg v0).setO hg v1).setO hg v2).setO hg v3).setO hg v4).setO hg v5).setO hg v6).setO hg v7).setO hg v8).setO hg v9).setO hg v10).setO hg v11
theorem Blk.stored12 {W : World} {g : Nat} {z0 z1 z2 z3 z4 z5 z6 z7 z8 z9 z10 z11 : Value} (G : Blk W g [z0, z1, z2, z3, z4, z5, z6, z7, z8, z9, z10, z11]) (v0 v1 v2 v3 v4 v5 v6 v7 v8 v9 v10 v11 : Value) : Blk ((((((((((((W.setCell ⟨g, 0, none⟩ v0).setCell ⟨g, 1, none⟩ v1).setCell ⟨g, 2, none⟩ v2).setCell ⟨g, 3, none⟩ v3).setCell ⟨g, 4, none⟩ v4).setCell ⟨g, 5, none⟩ v5).setCell ⟨g, 6, none⟩ v6).setCell ⟨g, 7, none⟩ v7).setCell ⟨g, 8, none⟩ v8).setCell ⟨g, 9, none⟩ v9).setCell ⟨g, 10, none⟩ v10).setCell ⟨g, 11, none⟩ v11) g [v0, v1, v2, v3, v4, v5, v6, v7, v8, v9, v10, v11] :=
 (((((((((((G.setI 0 (by simp) v0).setI 1 (by simp) v1).setI 2 (by simp) v2).setI 3 (by simp) v3).setI 4 (by simp) v4).setI 5 (by simp) v5).setI 6 (by simp) v6).setI 7 (by simp) v7).setI 8 (by simp) v8).setI 9 (by simp) v9).setI 10 (by simp) v10).setI 11 (by simp) v11
theorem Below.set12 {B g : Nat} {w W : World} {v0 v1 v2 v3 v4 v5 v6 v7 v8 v9 v10 v11 : Value} (hg : B ≤ g) (h : Below B w W) : Below B w ((((((((((((W.setCell ⟨g, 0, none⟩ v0).setCell ⟨g, 1, none⟩ v1).setCell ⟨g, 2, none⟩ v2).setCell ⟨g, 3, none⟩ v3).setCell ⟨g, 4, none⟩ v4).setCell ⟨g, 5, none⟩ v5).setCell ⟨g, 6, none⟩ v6).setCell ⟨g, 7, none⟩ v7).setCell ⟨g, 8, none⟩ v8).setCell ⟨g, 9, none⟩ v9).setCell ⟨g, 10, none⟩ v10).setCell ⟨g, 11, none⟩ v11) :=
 (((((((((((h.setCell (p := ⟨g, 0, none⟩) hg _).setCell (p := ⟨g, 1, none⟩) hg _).setCell (p := ⟨g, 2, none⟩) hg _).setCell (p := ⟨g, 3, none⟩) hg _).setCell (p := ⟨g, 4, none⟩) hg _).setCell (p := ⟨g, 5, none⟩) hg _).setCell (p := ⟨g, 6, none⟩) hg _).setCell (p := ⟨g, 7, none⟩) hg _).setCell (p := ⟨g, 8, none⟩) hg _).setCell (p := ⟨g, 9, none⟩) hg _).setCell (p := ⟨g, 10, none⟩) hg _).setCell (p := ⟨g, 11, none⟩) hg _
theorem en_cells {a b c d : Int} {w W : World} (T0 : ArgsB w W [[.int .i64 a, .int .i64 b, .int .i64 c, .int .i64 d], [.int .u64 0, .int .u64 0, .int .u64 0, .int .u64 0, .int .u64 0, .int .u64 0, .int .u64 0, .int .u64 0, .int .u64 0, .int .u64 0, .int .u64 0, .int .u64 0], [.int .u64 0, .int .u64 0, .int .u64 0, .int .u64 0, .int .u64 0, .int .u64 0, .int .u64 0, .int .u64 0, .int .u64 0, .int .u64 0, .int .u64 0, .int .u64 0]]) : (fun w' => w'.cell? ⟨w.heap.size, 0, none⟩ = some (.int .i64 a) ∧ w'.cell? ⟨w.heap.size, 1, none⟩ = some (.int .i64 b) ∧ w'.cell? ⟨w.heap.size, 2, none⟩ = some (.int .i64 c) ∧ w'.cell? ⟨w.heap.size, 3, none⟩ = some (.int .i64 d)) W := ⟨(T0.b 0 rfl).c 0 rfl, (T0.b 0 rfl).c 1 rfl, (T0.b 0 rfl).c 2 rfl, (T0.b 0 rfl).c 3 rfl⟩
theorem en_cells1 {a b c d : Int} {w W : World} {v0 v1 v2 v3 v4 v5 v6 v7 v8 v9 v10 v11 : Value} (T0 : ArgsB w W [[.int .i64 a, .int .i64 b, .int .i64 c, .int .i64 d], [.int .u64 0, .int .u64 0, .int .u64 0, .int .u64 0, .int .u64 0, .int .u64 0, .int .u64 0, .int .u64 0, .int .u64 0, .int .u64 0, .int .u64 0, .int .u64 0], [.int .u64 0, .int .u64 0, .int .u64 0, .int .u64 0, .int .u64 0, .int .u64 0, .int .u64 0, .int .u64 0, .int .u64 0, .int .u64 0, .int .u64 0, .int .u64 0]]) : (fun w' => w'.cell? ⟨w.heap.size, 0, none⟩ = some (.int .i64 a) ∧ w'.cell? ⟨w.heap.size, 1, none⟩ = some (.int .i64 b) ∧ w'.cell? ⟨w.heap.size, 2, none⟩ = some (.int .i64 c) ∧ w'.cell? ⟨w.heap.size, 3, none⟩ = some (.int .i64 d)) ((((((((((((W.setCell ⟨(w.heap.size + 1), 0, none⟩ v0).setCell ⟨(w.heap.size + 1), 1, none⟩ v1).setCell ⟨(w.heap.size + 1), 2, none⟩ v2).setCell ⟨(w.heap.size + 1), 3, none⟩ v3).setCell ⟨(w.heap.size + 1), 4, none⟩ v4).setCell ⟨(w.heap.size + 1), 5, none⟩ v5).setCell ⟨(w.heap.size + 1), 6, none⟩ v6).setCell ⟨(w.heap.size + 1), 7, none⟩ v7).setCell ⟨(w.heap.size + 1), 8, none⟩ v8).setCell ⟨(w.heap.size + 1), 9, none⟩ v9).setCell ⟨(w.heap.size + 1), 10, none⟩ v10).setCell ⟨(w.heap.size + 1), 11, none⟩ v11) := by
 have h : Blk ((((((((((((W.setCell ⟨(w.heap.size + 1), 0, none⟩ v0).setCell ⟨(w.heap.size + 1), 1, none⟩ v1).setCell ⟨(w.heap.size + 1), 2, none⟩ v2).setCell ⟨(w.heap.size + 1), 3, none⟩ v3).setCell ⟨(w.heap.size + 1), 4, none⟩ v4).setCell ⟨(w.heap.size + 1), 5, none⟩ v5).setCell ⟨(w.heap.size + 1), 6, none⟩ v6).setCell ⟨(w.heap.size + 1), 7, none⟩ v7).setCell ⟨(w.heap.size + 1), 8, none⟩ v8).setCell ⟨(w.heap.size + 1), 9, none⟩ v9).setCell ⟨(w.heap.size + 1), 10, none⟩ v10).setCell ⟨(w.heap.size + 1), 11, none⟩ v11) (w.heap.size + 0) _ := (T0.b 0 rfl).set12 (by omega)
 exact ⟨h.c 0 rfl, h.c 1 rfl, h.c 2 rfl, h.c 3 rfl⟩
theorem en_cells12 {a b c d : Int} {w W : World} {u0 u1 u2 u3 u4 u5 u6 u7 u8 u9 u10 u11 v0 v1 v2 v3 v4 v5 v6 v7 v8 v9 v10 v11 : Value} (T0 : ArgsB w W [[.int .i64 a, .int .i64 b, .int .i64 c, .int .i64 d], [.int .u64 0, .int .u64 0, .int .u64 0, .int .u64 0, .int .u64 0, .int .u64 0, .int .u64 0, .int .u64 0, .int .u64 0, .int .u64 0, .int .u64 0, .int .u64 0], [.int .u64 0, .int .u64 0, .int .u64 0, .int .u64 0, .int .u64 0, .int .u64 0, .int .u64 0, .int .u64 0, .int .u64 0, .int .u64 0, .int .u64 0, .int .u64 0]]) : (fun w' => w'.cell? ⟨w.heap.size, 0, none⟩ = some (.int .i64 a) ∧ w'.cell? ⟨w.heap.size, 1, none⟩ = some (.int .i64 b) ∧ w'.cell? ⟨w.heap.size, 2, none⟩ = some (.int .i64 c) ∧ w'.cell? ⟨w.heap.size, 3, none⟩ = some (.int .i64 d)) ((((((((((((((((((((((((W.setCell ⟨(w.heap.size + 1), 0, none⟩ u0).setCell ⟨(w.heap.size + 1), 1, none⟩ u1).setCell ⟨(w.heap.size + 1), 2, none⟩ u2).setCell ⟨(w.heap.size + 1), 3, none⟩ u3).setCell ⟨(w.heap.size + 1), 4, none⟩ u4).setCell ⟨(w.heap.size + 1), 5, none⟩ u5).setCell ⟨(w.heap.size + 1), 6, none⟩ u6).setCell ⟨(w.heap.size + 1), 7, none⟩ u7).setCell ⟨(w.heap.size + 1), 8, none⟩ u8).setCell ⟨(w.heap.size + 1), 9, none⟩ u9).setCell ⟨(w.heap.size + 1), 10, none⟩ u10).setCell ⟨(w.heap.size + 1), 11, none⟩ u11).setCell ⟨(w.heap.size + 1 + 1), 0, none⟩ v0).setCell ⟨(w.heap.size + 1 + 1), 1, none⟩ v1).setCell ⟨(w.heap.size + 1 + 1), 2, none⟩ v2).setCell ⟨(w.heap.size + 1 + 1), 3, none⟩ v3).setCell ⟨(w.heap.size + 1 + 1), 4, none⟩ v4).setCell ⟨(w.heap.size + 1 + 1), 5, none⟩ v5).setCell ⟨(w.heap.size + 1 + 1), 6, none⟩ v6).setCell ⟨(w.heap.size + 1 + 1), 7, none⟩ v7).setCell ⟨(w.heap.size + 1 + 1), 8, none⟩ v8).setCell ⟨(w.heap.size + 1 + 1), 9, none⟩ v9).setCell ⟨(w.heap.size + 1 + 1), 10, none⟩ v10).setCell ⟨(w.heap.size + 1 + 1), 11, none⟩ v11) := by
 have h : Blk ((((((((((((((((((((((((W.setCell ⟨(w.heap.size + 1), 0, none⟩ u0).setCell ⟨(w.heap.size + 1), 1, none⟩ u1).setCell ⟨(w.heap.size + 1), 2, none⟩ u2).setCell ⟨(w.heap.size + 1), 3, none⟩ u3).setCell ⟨(w.heap.size + 1), 4, none⟩ u4).setCell ⟨(w.heap.size + 1), 5, none⟩ u5).setCell ⟨(w.heap.size + 1), 6, none⟩ u6).setCell ⟨(w.heap.size + 1), 7, none⟩ u7).setCell ⟨(w.heap.size + 1), 8, none⟩ u8).setCell ⟨(w.heap.size + 1), 9, none⟩ u9).setCell ⟨(w.heap.size + 1), 10, none⟩ u10).setCell ⟨(w.heap.size + 1), 11, none⟩ u11).setCell ⟨(w.heap.size + 1 + 1), 0, none⟩ v0).setCell ⟨(w.heap.size + 1 + 1), 1, none⟩ v1).setCell ⟨(w.heap.size + 1 + 1), 2, none⟩ v2).setCell ⟨(w.heap.size + 1 + 1), 3, none⟩ v3).setCell ⟨(w.heap.size + 1 + 1), 4, none⟩ v4).setCell ⟨(w.heap.size + 1 + 1), 5, none⟩ v5).setCell ⟨(w.heap.size + 1 + 1), 6, none⟩ v6).setCell ⟨(w.heap.size + 1 + 1), 7, none⟩ v7).setCell ⟨(w.heap.size + 1 + 1), 8, none⟩ v8).setCell ⟨(w.heap.size + 1 + 1), 9, none⟩ v9).setCell ⟨(w.heap.size + 1 + 1), 10, none⟩ v10).setCell ⟨(w.heap.size + 1 + 1), 11, none⟩ v11) (w.heap.size + 0) _ := ((T0.b 0 rfl).set12 (by omega)).set12 (by omega)
 exact ⟨h.c 0 rfl, h.c 1 rfl, h.c 2 rfl, h.c 3 rfl⟩
set_option maxRecDepth 100000 in
set_option maxHeartbeats 4000000 in
theorem ends_det (a b c d : Int) (ha0 : -9223372036854775808 ≤ a) (ha1 : a ≤ 9223372036854775807) (hb0 : -9223372036854775808 ≤ b) (hb1 : b ≤ 9223372036854775807) (hc0 : -9223372036854775808 ≤ c) (hc1 : c ≤ 9223372036854775807) (hd0 : -9223372036854775808 ≤ d) (hd1 : d ≤ 9223372036854775807) (w : World) : Calls Tryz.prog 57 #[Sg a b c d] w (VP (.tuple #[PV a b 1, PV c d 1]) w) := by
 have T0 : ArgsB w (((w.alloc (.cells #[.int .i64 a, .int .i64 b, .int .i64 c, .int .i64 d] 53)).alloc (.cells #[.int .u64 0, .int .u64 0, .int .u64 0, .int .u64 0, .int .u64 0, .int .u64 0, .int .u64 0, .int .u64 0, .int .u64 0, .int .u64 0, .int .u64 0, .int .u64 0] 44)).alloc (.cells #[.int .u64 0, .int .u64 0, .int .u64 0, .int .u64 0, .int .u64 0, .int .u64 0, .int .u64 0, .int .u64 0, .int .u64 0, .int .u64 0, .int .u64 0, .int .u64 0] 44)) [[.int .i64 a, .int .i64 b, .int .i64 c, .int .i64 d], [.int .u64 0, .int .u64 0, .int .u64 0, .int .u64 0, .int .u64 0, .int .u64 0, .int .u64 0, .int .u64 0, .int .u64 0, .int .u64 0, .int .u64 0, .int .u64 0], [.int .u64 0, .int .u64 0, .int .u64 0, .int .u64 0, .int .u64 0, .int .u64 0, .int .u64 0, .int .u64 0, .int .u64 0, .int .u64 0, .int .u64 0, .int .u64 0]] := ar3 _ _ _ _ _ _ w
 have C1 := fun w => implPointOf_any a b ha0 ha1 hb0 hb1 w
 have C2 := fun w => implPointOf_any c d hc0 hc1 hd0 hd1 w
 clear ha0 ha1 hb0 hb1 hc0 hc1 hd0 hd1
 have tok1 : True := trivial
 go_enter Tryz.func57, Tryz.ntmps57
 go_upto_region 1 with fail
 generalize (((w.alloc (.cells #[.int .i64 a, .int .i64 b, .int .i64 c, .int .i64 d] 53)).alloc (.cells #[.int .u64 0, .int .u64 0, .int .u64 0, .int .u64 0, .int .u64 0, .int .u64 0, .int .u64 0, .int .u64 0, .int .u64 0, .int .u64 0, .int .u64 0, .int .u64 0] 44)).alloc (.cells #[.int .u64 0, .int .u64 0, .int .u64 0, .int .u64 0, .int .u64 0, .int .u64 0, .int .u64 0, .int .u64 0, .int .u64 0, .int .u64 0, .int .u64 0, .int .u64 0] 44)) = W at *
 go_region_held3 (fun w' => w'.cell? ⟨w.heap.size, 0, none⟩ = some (.int .i64 a) ∧ w'.cell? ⟨w.heap.size, 1, none⟩ = some (.int .i64 b) ∧ w'.cell? ⟨w.heap.size, 2, none⟩ = some (.int .i64 c) ∧ w'.cell? ⟨w.heap.size, 3, none⟩ = some (.int .i64 d)) (first | (with_reducible exact en_cells T0) | (with_reducible exact en_cells T0.drew) | (with_reducible exact en_cells1 T0) | (with_reducible exact en_cells2 T0) | (with_reducible exact en_cells12 T0) | (with_reducible exact en_cells21 T0))
   (first
     | (go_at_call 110; have _t := tok1; refine (C1 _).mono ?_; rintro e v1 ⟨rfl, hB⟩; (first | (have T1 := T0.step hB) | (have T1 := T0.drew.step hB)); clear T0; have T0 := T1; clear T1; clear hB; clear tok1 _t)
     | (go_at_call 110; refine (C2 _).mono ?_; rintro e v2 ⟨rfl, hB⟩; (first | (have T1 := T0.step hB) | (have T1 := T0.drew.step hB)); clear T0; have T0 := T1; clear T1; clear hB; have rc0 := (T0.b 1 rfl).c 0 rfl; have rf0 := (T0.b 1 rfl).f 0 rfl; have rc1 := (T0.b 1 rfl).c 1 rfl; have rf1 := (T0.b 1 rfl).f 1 rfl; have rc2 := (T0.b 1 rfl).c 2 rfl; have rf2 := (T0.b 1 rfl).f 2 rfl; have rc3 := (T0.b 1 rfl).c 3 rfl; have rf3 := (T0.b 1 rfl).f 3 rfl; have rc4 := (T0.b 1 rfl).c 4 rfl; have rf4 := (T0.b 1 rfl).f 4 rfl; have rc5 := (T0.b 1 rfl).c 5 rfl; have rf5 := (T0.b 1 rfl).f 5 rfl; have rc6 := (T0.b 1 rfl).c 6 rfl; have rf6 := (T0.b 1 rfl).f 6 rfl; have rc7 := (T0.b 1 rfl).c 7 rfl; have rf7 := (T0.b 1 rfl).f 7 rfl; have rc8 := (T0.b 1 rfl).c 8 rfl; have rf8 := (T0.b 1 rfl).f 8 rfl; have rc9 := (T0.b 1 rfl).c 9 rfl; have rf9 := (T0.b 1 rfl).f 9 rfl; have rc10 := (T0.b 1 rfl).c 10 rfl; have rf10 := (T0.b 1 rfl).f 10 rfl; have rc11 := (T0.b 1 rfl).c 11 rfl; have rf11 := (T0.b 1 rfl).f 11 rfl; have sc0 := (T0.b 2 rfl).c 0 rfl; have sf0 := (T0.b 2 rfl).f 0 rfl; have sc1 := (T0.b 2 rfl).c 1 rfl; have sf1 := (T0.b 2 rfl).f 1 rfl; have sc2 := (T0.b 2 rfl).c 2 rfl; have sf2 := (T0.b 2 rfl).f 2 rfl; have sc3 := (T0.b 2 rfl).c 3 rfl; have sf3 := (T0.b 2 rfl).f 3 rfl; have sc4 := (T0.b 2 rfl).c 4 rfl; have sf4 := (T0.b 2 rfl).f 4 rfl; have sc5 := (T0.b 2 rfl).c 5 rfl; have sf5 := (T0.b 2 rfl).f 5 rfl; have sc6 := (T0.b 2 rfl).c 6 rfl; have sf6 := (T0.b 2 rfl).f 6 rfl; have sc7 := (T0.b 2 rfl).c 7 rfl; have sf7 := (T0.b 2 rfl).f 7 rfl; have sc8 := (T0.b 2 rfl).c 8 rfl; have sf8 := (T0.b 2 rfl).f 8 rfl; have sc9 := (T0.b 2 rfl).c 9 rfl; have sf9 := (T0.b 2 rfl).f 9 rfl; have sc10 := (T0.b 2 rfl).c 10 rfl; have sf10 := (T0.b 2 rfl).f 10 rfl; have sc11 := (T0.b 2 rfl).c 11 rfl; have sf11 := (T0.b 2 rfl).f 11 rfl; have rl := (T0.b 1 rfl).lt; have sl := (T0.b 2 rfl).lt))
 all_goals have HB := T0.below
 all_goals have X1 : Blk _ (w.heap.size + 1) _ := T0.b 1 rfl
 all_goals have X2 : Blk _ (w.heap.size + 1 + 1) _ := T0.b 2 rfl
 go_wp2
 have F1 : Blk ((((((((((((((((((((((((v2.setCell ⟨(w.heap.size + 1), 0, none⟩ (.int .u64 (ww3 a))).setCell ⟨(w.heap.size + 1), 1, none⟩ (.int .u64 (ww2 a))).setCell ⟨(w.heap.size + 1), 2, none⟩ (.int .u64 (ww1 a))).setCell ⟨(w.heap.size + 1), 3, none⟩ (.int .u64 (ww0 a))).setCell ⟨(w.heap.size + 1), 4, none⟩ (.int .u64 (ww3 b))).setCell ⟨(w.heap.size + 1), 5, none⟩ (.int .u64 (ww2 b))).setCell ⟨(w.heap.size + 1), 6, none⟩ (.int .u64 (ww1 b))).setCell ⟨(w.heap.size + 1), 7, none⟩ (.int .u64 (ww0 b))).setCell ⟨(w.heap.size + 1), 8, none⟩ (.int .u64 (ww3 1))).setCell ⟨(w.heap.size + 1), 9, none⟩ (.int .u64 (ww2 1))).setCell ⟨(w.heap.size + 1), 10, none⟩ (.int .u64 (ww1 1))).setCell ⟨(w.heap.size + 1), 11, none⟩ (.int .u64 (ww0 1))).setCell ⟨(w.heap.size + 1 + 1), 0, none⟩ (.int .u64 (ww3 c))).setCell ⟨(w.heap.size + 1 + 1), 1, none⟩ (.int .u64 (ww2 c))).setCell ⟨(w.heap.size + 1 + 1), 2, none⟩ (.int .u64 (ww1 c))).setCell ⟨(w.heap.size + 1 + 1), 3, none⟩ (.int .u64 (ww0 c))).setCell ⟨(w.heap.size + 1 + 1), 4, none⟩ (.int .u64 (ww3 d))).setCell ⟨(w.heap.size + 1 + 1), 5, none⟩ (.int .u64 (ww2 d))).setCell ⟨(w.heap.size + 1 + 1), 6, none⟩ (.int .u64 (ww1 d))).setCell ⟨(w.heap.size + 1 + 1), 7, none⟩ (.int .u64 (ww0 d))).setCell ⟨(w.heap.size + 1 + 1), 8, none⟩ (.int .u64 (ww3 1))).setCell ⟨(w.heap.size + 1 + 1), 9, none⟩ (.int .u64 (ww2 1))).setCell ⟨(w.heap.size + 1 + 1), 10, none⟩ (.int .u64 (ww1 1))).setCell ⟨(w.heap.size + 1 + 1), 11, none⟩ (.int .u64 (ww0 1))) (w.heap.size + 1) [.int .u64 (ww3 a), .int .u64 (ww2 a), .int .u64 (ww1 a), .int .u64 (ww0 a), .int .u64 (ww3 b), .int .u64 (ww2 b), .int .u64 (ww1 b), .int .u64 (ww0 b), .int .u64 (ww3 1), .int .u64 (ww2 1), .int .u64 (ww1 1), .int .u64 (ww0 1)] := (X1.stored12 (.int .u64 (ww3 a)) (.int .u64 (ww2 a)) (.int .u64 (ww1 a)) (.int .u64 (ww0 a)) (.int .u64 (ww3 b)) (.int .u64 (ww2 b)) (.int .u64 (ww1 b)) (.int .u64 (ww0 b)) (.int .u64 (ww3 1)) (.int .u64 (ww2 1)) (.int .u64 (ww1 1)) (.int .u64 (ww0 1))).set12 (by omega)
 have F2 : Blk ((((((((((((((((((((((((v2.setCell ⟨(w.heap.size + 1), 0, none⟩ (.int .u64 (ww3 a))).setCell ⟨(w.heap.size + 1), 1, none⟩ (.int .u64 (ww2 a))).setCell ⟨(w.heap.size + 1), 2, none⟩ (.int .u64 (ww1 a))).setCell ⟨(w.heap.size + 1), 3, none⟩ (.int .u64 (ww0 a))).setCell ⟨(w.heap.size + 1), 4, none⟩ (.int .u64 (ww3 b))).setCell ⟨(w.heap.size + 1), 5, none⟩ (.int .u64 (ww2 b))).setCell ⟨(w.heap.size + 1), 6, none⟩ (.int .u64 (ww1 b))).setCell ⟨(w.heap.size + 1), 7, none⟩ (.int .u64 (ww0 b))).setCell ⟨(w.heap.size + 1), 8, none⟩ (.int .u64 (ww3 1))).setCell ⟨(w.heap.size + 1), 9, none⟩ (.int .u64 (ww2 1))).setCell ⟨(w.heap.size + 1), 10, none⟩ (.int .u64 (ww1 1))).setCell ⟨(w.heap.size + 1), 11, none⟩ (.int .u64 (ww0 1))).setCell ⟨(w.heap.size + 1 + 1), 0, none⟩ (.int .u64 (ww3 c))).setCell ⟨(w.heap.size + 1 + 1), 1, none⟩ (.int .u64 (ww2 c))).setCell ⟨(w.heap.size + 1 + 1), 2, none⟩ (.int .u64 (ww1 c))).setCell ⟨(w.heap.size + 1 + 1), 3, none⟩ (.int .u64 (ww0 c))).setCell ⟨(w.heap.size + 1 + 1), 4, none⟩ (.int .u64 (ww3 d))).setCell ⟨(w.heap.size + 1 + 1), 5, none⟩ (.int .u64 (ww2 d))).setCell ⟨(w.heap.size + 1 + 1), 6, none⟩ (.int .u64 (ww1 d))).setCell ⟨(w.heap.size + 1 + 1), 7, none⟩ (.int .u64 (ww0 d))).setCell ⟨(w.heap.size + 1 + 1), 8, none⟩ (.int .u64 (ww3 1))).setCell ⟨(w.heap.size + 1 + 1), 9, none⟩ (.int .u64 (ww2 1))).setCell ⟨(w.heap.size + 1 + 1), 10, none⟩ (.int .u64 (ww1 1))).setCell ⟨(w.heap.size + 1 + 1), 11, none⟩ (.int .u64 (ww0 1))) (w.heap.size + 1 + 1) [.int .u64 (ww3 c), .int .u64 (ww2 c), .int .u64 (ww1 c), .int .u64 (ww0 c), .int .u64 (ww3 d), .int .u64 (ww2 d), .int .u64 (ww1 d), .int .u64 (ww0 d), .int .u64 (ww3 1), .int .u64 (ww2 1), .int .u64 (ww1 1), .int .u64 (ww0 1)] := (X2.set12 (by omega)).stored12 (.int .u64 (ww3 c)) (.int .u64 (ww2 c)) (.int .u64 (ww1 c)) (.int .u64 (ww0 c)) (.int .u64 (ww3 d)) (.int .u64 (ww2 d)) (.int .u64 (ww1 d)) (.int .u64 (ww0 d)) (.int .u64 (ww3 1)) (.int .u64 (ww2 1)) (.int .u64 (ww1 1)) (.int .u64 (ww0 1))
 have HBF : Below w.heap.size w ((((((((((((((((((((((((v2.setCell ⟨(w.heap.size + 1), 0, none⟩ (.int .u64 (ww3 a))).setCell ⟨(w.heap.size + 1), 1, none⟩ (.int .u64 (ww2 a))).setCell ⟨(w.heap.size + 1), 2, none⟩ (.int .u64 (ww1 a))).setCell ⟨(w.heap.size + 1), 3, none⟩ (.int .u64 (ww0 a))).setCell ⟨(w.heap.size + 1), 4, none⟩ (.int .u64 (ww3 b))).setCell ⟨(w.heap.size + 1), 5, none⟩ (.int .u64 (ww2 b))).setCell ⟨(w.heap.size + 1), 6, none⟩ (.int .u64 (ww1 b))).setCell ⟨(w.heap.size + 1), 7, none⟩ (.int .u64 (ww0 b))).setCell ⟨(w.heap.size + 1), 8, none⟩ (.int .u64 (ww3 1))).setCell ⟨(w.heap.size + 1), 9, none⟩ (.int .u64 (ww2 1))).setCell ⟨(w.heap.size + 1), 10, none⟩ (.int .u64 (ww1 1))).setCell ⟨(w.heap.size + 1), 11, none⟩ (.int .u64 (ww0 1))).setCell ⟨(w.heap.size + 1 + 1), 0, none⟩ (.int .u64 (ww3 c))).setCell ⟨(w.heap.size + 1 + 1), 1, none⟩ (.int .u64 (ww2 c))).setCell ⟨(w.heap.size + 1 + 1), 2, none⟩ (.int .u64 (ww1 c))).setCell ⟨(w.heap.size + 1 + 1), 3, none⟩ (.int .u64 (ww0 c))).setCell ⟨(w.heap.size + 1 + 1), 4, none⟩ (.int .u64 (ww3 d))).setCell ⟨(w.heap.size + 1 + 1), 5, none⟩ (.int .u64 (ww2 d))).setCell ⟨(w.heap.size + 1 + 1), 6, none⟩ (.int .u64 (ww1 d))).setCell ⟨(w.heap.size + 1 + 1), 7, none⟩ (.int .u64 (ww0 d))).setCell ⟨(w.heap.size + 1 + 1), 8, none⟩ (.int .u64 (ww3 1))).setCell ⟨(w.heap.size + 1 + 1), 9, none⟩ (.int .u64 (ww2 1))).setCell ⟨(w.heap.size + 1 + 1), 10, none⟩ (.int .u64 (ww1 1))).setCell ⟨(w.heap.size + 1 + 1), 11, none⟩ (.int .u64 (ww0 1))) := Below.set12 (by omega) (Below.set12 (by omega) HB)
 generalize ((((((((((((((((((((((((v2.setCell ⟨(w.heap.size + 1), 0, none⟩ (.int .u64 (ww3 a))).setCell ⟨(w.heap.size + 1), 1, none⟩ (.int .u64 (ww2 a))).setCell ⟨(w.heap.size + 1), 2, none⟩ (.int .u64 (ww1 a))).setCell ⟨(w.heap.size + 1), 3, none⟩ (.int .u64 (ww0 a))).setCell ⟨(w.heap.size + 1), 4, none⟩ (.int .u64 (ww3 b))).setCell ⟨(w.heap.size + 1), 5, none⟩ (.int .u64 (ww2 b))).setCell ⟨(w.heap.size + 1), 6, none⟩ (.int .u64 (ww1 b))).setCell ⟨(w.heap.size + 1), 7, none⟩ (.int .u64 (ww0 b))).setCell ⟨(w.heap.size + 1), 8, none⟩ (.int .u64 (ww3 1))).setCell ⟨(w.heap.size + 1), 9, none⟩ (.int .u64 (ww2 1))).setCell ⟨(w.heap.size + 1), 10, none⟩ (.int .u64 (ww1 1))).setCell ⟨(w.heap.size + 1), 11, none⟩ (.int .u64 (ww0 1))).setCell ⟨(w.heap.size + 1 + 1), 0, none⟩ (.int .u64 (ww3 c))).setCell ⟨(w.heap.size + 1 + 1), 1, none⟩ (.int .u64 (ww2 c))).setCell ⟨(w.heap.size + 1 + 1), 2, none⟩ (.int .u64 (ww1 c))).setCell ⟨(w.heap.size + 1 + 1), 3, none⟩ (.int .u64 (ww0 c))).setCell ⟨(w.heap.size + 1 + 1), 4, none⟩ (.int .u64 (ww3 d))).setCell ⟨(w.heap.size + 1 + 1), 5, none⟩ (.int .u64 (ww2 d))).setCell ⟨(w.heap.size + 1 + 1), 6, none⟩ (.int .u64 (ww1 d))).setCell ⟨(w.heap.size + 1 + 1), 7, none⟩ (.int .u64 (ww0 d))).setCell ⟨(w.heap.size + 1 + 1), 8, none⟩ (.int .u64 (ww3 1))).setCell ⟨(w.heap.size + 1 + 1), 9, none⟩ (.int .u64 (ww2 1))).setCell ⟨(w.heap.size + 1 + 1), 10, none⟩ (.int .u64 (ww1 1))).setCell ⟨(w.heap.size + 1 + 1), 11, none⟩ (.int .u64 (ww0 1))) = WF at *
 have m0 := F1.c 0 rfl; have n0 := F2.c 0 rfl; have m1 := F1.c 1 rfl; have n1 := F2.c 1 rfl; have m2 := F1.c 2 rfl; have n2 := F2.c 2 rfl; have m3 := F1.c 3 rfl; have n3 := F2.c 3 rfl; have m4 := F1.c 4 rfl; have n4 := F2.c 4 rfl; have m5 := F1.c 5 rfl; have n5 := F2.c 5 rfl; have m6 := F1.c 6 rfl; have n6 := F2.c 6 rfl; have m7 := F1.c 7 rfl; have n7 := F2.c 7 rfl; have m8 := F1.c 8 rfl; have n8 := F2.c 8 rfl; have m9 := F1.c 9 rfl; have n9 := F2.c 9 rfl; have m10 := F1.c 10 rfl; have n10 := F2.c 10 rfl; have m11 := F1.c 11 rfl; have n11 := F2.c 11 rfl
 refine bodyPost_ret (v := .tuple #[PV a b 1, PV c d 1]) (by simp [results, Tryz.results57, go_sem, m0, n0, m1, n1, m2, n2, m3, n3, m4, n4, m5, n5, m6, n6, m7, n7, m8, n8, m9, n9, m10, n10, m11, n11]) rfl ?_
 exact ⟨rfl, HBF⟩
abbrev Ps := Nat → Int × Int
def sdA (n : Nat) (p : Ps) (i : Nat) : Int × Int × Int × Int := if lessI (p ((i + 1) % n)).1 (p ((i + 1) % n)).2 (p i).1 (p i).2 = true then ((p ((i + 1) % n)).1, (p ((i + 1) % n)).2, (p i).1, (p i).2) else ((p i).1, (p i).2, (p ((i + 1) % n)).1, (p ((i + 1) % n)).2)
abbrev OneN (n : Nat) (p : Ps) : Prop := ∀ i, i < n → ∀ k, k < i → p i ≠ p k
def SpIn (w : World) (ao : Option Addr) (n : Nat) (p : Ps) : Prop :=
 ∀ i, i < n → ∃ A off, ao = some ⟨A, off, none⟩ ∧ A < w.heap.size ∧ w.cell? ⟨A, off + i * 2, none⟩ = some (.int .i64 (p i).1) ∧ w.cell? ⟨A, off + i * 2 + 1, none⟩ = some (.int .i64 (p i).2)
theorem SpIn.step {w w' : World} {ao : Option Addr} {n : Nat} {p : Ps} (h : SpIn w ao n p) (hB : Below w.heap.size w w') : SpIn w' ao n p := fun i hi => by
 obtain ⟨A, off, e, hA, h0, h1⟩ := h i hi
 exact ⟨A, off, e, Nat.lt_of_lt_of_le hA hB.size, (hB.cell (p := ⟨A, off + i * 2, none⟩) hA).trans h0, (hB.cell (p := ⟨A, off + i * 2 + 1, none⟩) hA).trans h1⟩
theorem SpIn.drew {w : World} {ao : Option Addr} {n : Nat} {p : Ps} (h : SpIn w ao n p) : SpIn w.drew ao n p := h
def spW (p : Ps) (k : Nat) : Int := if k % 2 = 0 then (p (k / 2)).1 else (p (k / 2)).2
theorem spW0 (p : Ps) (c : Nat) : spW p (c * 2) = (p c).1 := by
 unfold spW
 rw [if_pos (by omega), show c * 2 / 2 = c by omega]
theorem spW1 (p : Ps) (c : Nat) : spW p (c * 2 + 1) = (p c).2 := by
 unfold spW
 rw [if_neg (by omega), show (c * 2 + 1) / 2 = c by omega]
theorem rows_step {w w' : World} {g n : Nat} {T : TypeId} {f : Nat → Value} (h : w.rowIs g T n f) (hB : Below w.heap.size w w') : w'.rowIs g T n f := h.of_block (hB.block g h.lt)
set_option maxRecDepth 100000 in
set_option maxHeartbeats 400000 in
theorem implSegOf_any (x y u v A B C D : Int) (l k : Bool) (hl : lessI u v x y = l) (hk : segOk A B C D = k) (hA : cond l u x = A) (hB : cond l v y = B) (hC : cond l x u = C) (hD : cond l y v = D) (w : World) :
   Calls Tryz.prog 67 #[Sp x y, Sp u v] w (VP (.tuple #[Sg (cond k A 0) (cond k B 0) (cond k C 0) (cond k D 0), .bool k]) w) := by
 cases l <;> simp only [cond_true, cond_false] at hA hB hC hD <;> subst hA hB hC hD
 · have B0 := Blk.new w [.int .i64 x, .int .i64 y] 51 rfl
   have HB0 : Below w.heap.size w _ := (Below.refl _ w).alloc (Nat.le_refl _) (.cells #[.int .i64 x, .int .i64 y] 51)
   have B1 := Blk.new (w.alloc (.cells #[.int .i64 x, .int .i64 y] 51)) [.int .i64 u, .int .i64 v] 51 (g := w.heap.size + 1) (by simp)
   replace B0 := B0.alloc (.cells #[.int .i64 u, .int .i64 v] 51)
   replace HB0 := HB0.alloc (by simp) (.cells #[.int .i64 u, .int .i64 v] 51)
   have B2 := Blk.new ((w.alloc (.cells #[.int .i64 x, .int .i64 y] 51)).alloc (.cells #[.int .i64 u, .int .i64 v] 51)) [.int .i64 0, .int .i64 0, .int .i64 0, .int .i64 0] 53 (g := w.heap.size + 1 + 1) (by simp)
   replace B0 := B0.alloc (.cells #[.int .i64 0, .int .i64 0, .int .i64 0, .int .i64 0] 53)
   replace B1 := B1.alloc (.cells #[.int .i64 0, .int .i64 0, .int .i64 0, .int .i64 0] 53)
   replace HB0 := HB0.alloc (by simp; omega) (.cells #[.int .i64 0, .int .i64 0, .int .i64 0, .int .i64 0] 53)
   have B3 := Blk.new (((w.alloc (.cells #[.int .i64 x, .int .i64 y] 51)).alloc (.cells #[.int .i64 u, .int .i64 v] 51)).alloc (.cells #[.int .i64 0, .int .i64 0, .int .i64 0, .int .i64 0] 53)) [.int .i64 x, .int .i64 y, .int .i64 u, .int .i64 v] 53 (g := w.heap.size + 1 + 1 + 1) (by simp)
   replace B0 := B0.alloc (.cells #[.int .i64 x, .int .i64 y, .int .i64 u, .int .i64 v] 53)
   replace B1 := B1.alloc (.cells #[.int .i64 x, .int .i64 y, .int .i64 u, .int .i64 v] 53)
   replace B2 := B2.alloc (.cells #[.int .i64 x, .int .i64 y, .int .i64 u, .int .i64 v] 53)
   replace HB0 := HB0.alloc (by simp; omega) (.cells #[.int .i64 x, .int .i64 y, .int .i64 u, .int .i64 v] 53)
   go_enter Tryz.func67, Tryz.ntmps67
   go_wp2_with fail
   refine (isAhead_any _ _ _ _ false hl _).mono ?_
   rintro e w1 ⟨rfl, hB⟩
   replace B0 := B0.step hB; replace B1 := B1.step hB; replace B2 := B2.step hB; replace B3 := B3.step hB
   have HB : Below w.heap.size w w1 := HB0.trans (hB.mono HB0.size)
   clear hB HB0
   have cB00 := B0.c 0 rfl; have fB00 := B0.f 0 rfl; have cB01 := B0.c 1 rfl; have fB01 := B0.f 1 rfl; have cB10 := B1.c 0 rfl; have fB10 := B1.f 0 rfl; have cB11 := B1.c 1 rfl; have fB11 := B1.f 1 rfl; have cB20 := B2.c 0 rfl; have fB20 := B2.f 0 rfl; have cB21 := B2.c 1 rfl; have fB21 := B2.f 1 rfl; have cB22 := B2.c 2 rfl; have fB22 := B2.f 2 rfl; have cB23 := B2.c 3 rfl; have fB23 := B2.f 3 rfl; have cB30 := B3.c 0 rfl; have fB30 := B3.f 0 rfl; have cB31 := B3.c 1 rfl; have fB31 := B3.f 1 rfl; have cB32 := B3.c 2 rfl; have fB32 := B3.f 2 rfl; have cB33 := B3.c 3 rfl; have fB33 := B3.f 3 rfl; have ltB0 := B0.lt; have ltB1 := B1.lt; have ltB2 := B2.lt; have ltB3 := B3.lt
   go_wp2_with fail
   have D2 := B2
   have D3 := B3
   have HC := HB
   refine (implSegOk_any _ _ _ _ k hk _).mono ?_
   rintro e w2 ⟨rfl, hB⟩
   replace D2 := D2.step hB
   replace D3 := D3.step hB
   have HD : Below w.heap.size w w2 := HC.trans (hB.mono HC.size)
   clear hB HC HB B0 B1 B2 B3 cB00 fB00 cB01 fB01 cB10 fB10 cB11 fB11 cB20 fB20 cB21 fB21 cB22 fB22 cB23 fB23 cB30 fB30 cB31 fB31 cB32 fB32 cB33 fB33 ltB0 ltB1 ltB2 ltB3
   have cD20 := D2.c 0 rfl; have fD20 := D2.f 0 rfl; have cD21 := D2.c 1 rfl; have fD21 := D2.f 1 rfl; have cD22 := D2.c 2 rfl; have fD22 := D2.f 2 rfl; have cD23 := D2.c 3 rfl; have fD23 := D2.f 3 rfl; have cD30 := D3.c 0 rfl; have fD30 := D3.f 0 rfl; have cD31 := D3.c 1 rfl; have fD31 := D3.f 1 rfl; have cD32 := D3.c 2 rfl; have fD32 := D3.f 2 rfl; have cD33 := D3.c 3 rfl; have fD33 := D3.f 3 rfl
   have ltD2 := D2.lt; have ltD3 := D3.lt
   cases k
   · go_wp2
     refine bodyPost_ret (v := .tuple #[Sg 0 0 0 0, .bool false]) (by simp [results, Tryz.results67, go_sem, cD20, cD21, cD22, cD23]) rfl ?_
     refine ⟨rfl, ?_⟩
     repeat' (refine Below.setCell ?_ (by simp; try omega) _)
     exact HD
   · go_wp2
     refine bodyPost_ret (v := .tuple #[Sg x y u v, .bool true]) (by simp [results, Tryz.results67, go_sem, cD20, cD21, cD22, cD23]) rfl ?_
     refine ⟨rfl, ?_⟩
     repeat' (refine Below.setCell ?_ (by simp; try omega) _)
     exact HD
 · have B0 := Blk.new w [.int .i64 x, .int .i64 y] 51 rfl
   have HB0 : Below w.heap.size w _ := (Below.refl _ w).alloc (Nat.le_refl _) (.cells #[.int .i64 x, .int .i64 y] 51)
   have B1 := Blk.new (w.alloc (.cells #[.int .i64 x, .int .i64 y] 51)) [.int .i64 u, .int .i64 v] 51 (g := w.heap.size + 1) (by simp)
   replace B0 := B0.alloc (.cells #[.int .i64 u, .int .i64 v] 51)
   replace HB0 := HB0.alloc (by simp) (.cells #[.int .i64 u, .int .i64 v] 51)
   have B2 := Blk.new ((w.alloc (.cells #[.int .i64 x, .int .i64 y] 51)).alloc (.cells #[.int .i64 u, .int .i64 v] 51)) [.int .i64 0, .int .i64 0, .int .i64 0, .int .i64 0] 53 (g := w.heap.size + 1 + 1) (by simp)
   replace B0 := B0.alloc (.cells #[.int .i64 0, .int .i64 0, .int .i64 0, .int .i64 0] 53)
   replace B1 := B1.alloc (.cells #[.int .i64 0, .int .i64 0, .int .i64 0, .int .i64 0] 53)
   replace HB0 := HB0.alloc (by simp; omega) (.cells #[.int .i64 0, .int .i64 0, .int .i64 0, .int .i64 0] 53)
   have B3 := Blk.new (((w.alloc (.cells #[.int .i64 x, .int .i64 y] 51)).alloc (.cells #[.int .i64 u, .int .i64 v] 51)).alloc (.cells #[.int .i64 0, .int .i64 0, .int .i64 0, .int .i64 0] 53)) [.int .i64 x, .int .i64 y, .int .i64 u, .int .i64 v] 53 (g := w.heap.size + 1 + 1 + 1) (by simp)
   replace B0 := B0.alloc (.cells #[.int .i64 x, .int .i64 y, .int .i64 u, .int .i64 v] 53)
   replace B1 := B1.alloc (.cells #[.int .i64 x, .int .i64 y, .int .i64 u, .int .i64 v] 53)
   replace B2 := B2.alloc (.cells #[.int .i64 x, .int .i64 y, .int .i64 u, .int .i64 v] 53)
   replace HB0 := HB0.alloc (by simp; omega) (.cells #[.int .i64 x, .int .i64 y, .int .i64 u, .int .i64 v] 53)
   go_enter Tryz.func67, Tryz.ntmps67
   go_wp2_with fail
   refine (isAhead_any _ _ _ _ true hl _).mono ?_
   rintro e w1 ⟨rfl, hB⟩
   replace B0 := B0.step hB; replace B1 := B1.step hB; replace B2 := B2.step hB; replace B3 := B3.step hB
   have HB : Below w.heap.size w w1 := HB0.trans (hB.mono HB0.size)
   clear hB HB0
   have cB00 := B0.c 0 rfl; have fB00 := B0.f 0 rfl; have cB01 := B0.c 1 rfl; have fB01 := B0.f 1 rfl; have cB10 := B1.c 0 rfl; have fB10 := B1.f 0 rfl; have cB11 := B1.c 1 rfl; have fB11 := B1.f 1 rfl; have cB20 := B2.c 0 rfl; have fB20 := B2.f 0 rfl; have cB21 := B2.c 1 rfl; have fB21 := B2.f 1 rfl; have cB22 := B2.c 2 rfl; have fB22 := B2.f 2 rfl; have cB23 := B2.c 3 rfl; have fB23 := B2.f 3 rfl; have cB30 := B3.c 0 rfl; have fB30 := B3.f 0 rfl; have cB31 := B3.c 1 rfl; have fB31 := B3.f 1 rfl; have cB32 := B3.c 2 rfl; have fB32 := B3.f 2 rfl; have cB33 := B3.c 3 rfl; have fB33 := B3.f 3 rfl; have ltB0 := B0.lt; have ltB1 := B1.lt; have ltB2 := B2.lt; have ltB3 := B3.lt
   go_wp2_with fail
   have D2 := ((((B2.setO (p := ⟨w.heap.size + 1 + 1 + 1, 0, none⟩) (by simp) (.int .i64 u)).setO (p := ⟨w.heap.size + 1 + 1 + 1, 1, none⟩) (by simp) (.int .i64 v)).setO (p := ⟨w.heap.size + 1 + 1 + 1, 2, none⟩) (by simp) (.int .i64 x)).setO (p := ⟨w.heap.size + 1 + 1 + 1, 3, none⟩) (by simp) (.int .i64 y))
   have D3 := ((((B3.setI 0 (by simp) (.int .i64 u)).setI 1 (by simp) (.int .i64 v)).setI 2 (by simp) (.int .i64 x)).setI 3 (by simp) (.int .i64 y))
   simp only [List.set_cons_zero, List.set_cons_succ] at D3
   have HC := ((((HB.setCell (p := ⟨w.heap.size + 1 + 1 + 1, 0, none⟩) (by simp; omega) (.int .i64 u)).setCell (p := ⟨w.heap.size + 1 + 1 + 1, 1, none⟩) (by simp; omega) (.int .i64 v)).setCell (p := ⟨w.heap.size + 1 + 1 + 1, 2, none⟩) (by simp; omega) (.int .i64 x)).setCell (p := ⟨w.heap.size + 1 + 1 + 1, 3, none⟩) (by simp; omega) (.int .i64 y))
   refine (implSegOk_any _ _ _ _ k hk _).mono ?_
   rintro e w2 ⟨rfl, hB⟩
   replace D2 := D2.step hB
   replace D3 := D3.step hB
   have HD : Below w.heap.size w w2 := HC.trans (hB.mono HC.size)
   clear hB HC HB B0 B1 B2 B3 cB00 fB00 cB01 fB01 cB10 fB10 cB11 fB11 cB20 fB20 cB21 fB21 cB22 fB22 cB23 fB23 cB30 fB30 cB31 fB31 cB32 fB32 cB33 fB33 ltB0 ltB1 ltB2 ltB3
   have cD20 := D2.c 0 rfl; have fD20 := D2.f 0 rfl; have cD21 := D2.c 1 rfl; have fD21 := D2.f 1 rfl; have cD22 := D2.c 2 rfl; have fD22 := D2.f 2 rfl; have cD23 := D2.c 3 rfl; have fD23 := D2.f 3 rfl; have cD30 := D3.c 0 rfl; have fD30 := D3.f 0 rfl; have cD31 := D3.c 1 rfl; have fD31 := D3.f 1 rfl; have cD32 := D3.c 2 rfl; have fD32 := D3.f 2 rfl; have cD33 := D3.c 3 rfl; have fD33 := D3.f 3 rfl
   have ltD2 := D2.lt; have ltD3 := D3.lt
   cases k
   · go_wp2
     refine bodyPost_ret (v := .tuple #[Sg 0 0 0 0, .bool false]) (by simp [results, Tryz.results67, go_sem, cD20, cD21, cD22, cD23]) rfl ?_
     refine ⟨rfl, ?_⟩
     repeat' (refine Below.setCell ?_ (by simp; try omega) _)
     exact HD
   · go_wp2
     refine bodyPost_ret (v := .tuple #[Sg u v x y, .bool true]) (by simp [results, Tryz.results67, go_sem, cD20, cD21, cD22, cD23]) rfl ?_
     refine ⟨rfl, ?_⟩
     repeat' (refine Below.setCell ?_ (by simp; try omega) _)
     exact HD
set_option maxRecDepth 100000 in
set_option maxHeartbeats 4000000 in
theorem spotAfter_any (ao : Option Addr) (n cap : Nat) (p : Ps) (i : Nat) (hi : i < n) (hn : n ≤ 1048576) (w : World) (hS : SpIn w ao n p) : Calls Tryz.prog 68 #[.agg #[.slice ao n cap], .int .i64 (i : Int)] w (VP (Sp (p ((i + 1) % n)).1 (p ((i + 1) % n)).2) w) := by
 have hm : (i + 1) % n < n := Nat.mod_lt _ (by omega)
 obtain ⟨A, off, rfl, hA, q0, q1⟩ := hS _ hm
 have B0 := (Blk.new w [.slice (some ⟨A, off, none⟩) n cap] 57 rfl).alloc (.cells #[.int .i64 0, .int .i64 0] 51)
 have B1 := Blk.new (w.alloc (.cells #[.slice (some ⟨A, off, none⟩) n cap] 57)) [.int .i64 0, .int .i64 0] 51 (g := w.heap.size + 1) (by simp)
 have HB : Below w.heap.size w ((w.alloc (.cells #[.slice (some ⟨A, off, none⟩) n cap] 57)).alloc (.cells #[.int .i64 0, .int .i64 0] 51)) := ((Below.refl _ w).alloc (Nat.le_refl _) _).alloc (by simp) _
 replace q0 := (HB.cell (p := ⟨A, _, none⟩) hA).trans q0
 replace q1 := (HB.cell (p := ⟨A, _, none⟩) hA).trans q1
 have hrem : ((i : Int) + 1).tmod (n : Int) = (((i + 1) % n : Nat) : Int) := by
   rw [Int.tmod_eq_emod_of_nonneg (by omega), Int.natCast_emod]
   rfl
 have hadd : IntKind.i64.wrap ((i : Int) + 1) = (i : Int) + 1 := by rw [IntKind.wrap_i64]; omega
 have hmI : (((i + 1) % n : Nat) : Int) < n := by have := Nat.mod_lt (i + 1) (show 0 < n by omega); omega
 have hl0 : ¬ ((n : Int) = 0) := by omega
 have hl1 : ¬ (n = 0) := by omega
 have hne : A ≠ w.heap.size := by omega
 have hne1 : A ≠ w.heap.size + 1 := by omega
 go_enter Tryz.func68, Tryz.ntmps68
 go_upto_region 1 with fail
 generalize (w.alloc (.cells #[.slice (some ⟨A, off, none⟩) n cap] 57)).alloc (.cells #[.int .i64 0, .int .i64 0] 51) = W at *
 have HK : ∀ W', Below (w.heap.size + 1) W W' → (fun w' : World => w'.cell? ⟨w.heap.size, 0, none⟩ = some (.slice (some ⟨A, off, none⟩) n cap) ∧ w'.cell? ⟨A, off + ((i + 1) % n) * 2, none⟩ = some (.int .i64 (p ((i + 1) % n)).1) ∧ w'.cell? ⟨A, off + ((i + 1) % n) * 2 + 1, none⟩ = some (.int .i64 (p ((i + 1) % n)).2)) W' := fun W' h => ⟨(B0.below h (by omega)).c 0 rfl, (h.cell (p := ⟨A, _, none⟩) (by show A < w.heap.size + 1; omega)).trans q0, (h.cell (p := ⟨A, _, none⟩) (by show A < w.heap.size + 1; omega)).trans q1⟩
 have H0 : Below (w.heap.size + 1) W W := Below.refl _ _
 have z0 := B1.c 0 rfl; have z1 := B1.c 1 rfl; have y0 := B1.f 0 rfl; have y1 := B1.f 1 rfl; have zl := B1.lt
 have hI1 : (i : Int) < n := by omega
 have hnI : (n : Int) ≤ 1048576 := by omega
 clear hm hS B0 q0 q1
 generalize ((i + 1) % n) = e' at *
 go_region_held3 (fun w' : World => w'.cell? ⟨w.heap.size, 0, none⟩ = some (.slice (some ⟨A, off, none⟩) n cap) ∧ w'.cell? ⟨A, off + e' * 2, none⟩ = some (.int .i64 (p e').1) ∧ w'.cell? ⟨A, off + e' * 2 + 1, none⟩ = some (.int .i64 (p e').2)) (refine HK _ ?_ <;> repeat (first | (with_reducible exact H0) | (with_reducible refine Below.drew ?_) | (with_reducible refine Below.setCell ?_ (by first | exact Nat.le_refl _ | simp) _))) (fail)
 all_goals have RN : Blk ((W.setCell ⟨w.heap.size + 1, 0, none⟩ (.int .i64 (p e').1)).setCell ⟨w.heap.size + 1, 1, none⟩ (.int .i64 (p e').2)).drew (w.heap.size + 1) [.int .i64 (p e').1, .int .i64 (p e').2] := ((B1.setI 0 (by simp) _).setI 1 (by simp) _).drew
 all_goals have HN : Below w.heap.size w ((W.setCell ⟨w.heap.size + 1, 0, none⟩ (.int .i64 (p e').1)).setCell ⟨w.heap.size + 1, 1, none⟩ (.int .i64 (p e').2)).drew := ((HB.setCell (p := ⟨w.heap.size + 1, 0, none⟩) (by simp) _).setCell (p := ⟨w.heap.size + 1, 1, none⟩) (by simp) _).drew
 all_goals have r0 := RN.c 0 rfl; have r1 := RN.c 1 rfl
 all_goals go_wp2
 all_goals refine bodyPost_ret (v := Sp (p e').1 (p e').2) (by simp [results, Tryz.results68, go_sem, r0, r1]) rfl ?_
 all_goals exact ⟨rfl, HN⟩
def moI (n i j : Nat) : Int := if i + 1 = j ∨ j + 1 = i ∨ i + n = j + 1 ∨ j + n = i + 1 then 1 else 0
set_option maxRecDepth 100000 in
set_option maxHeartbeats 4000000 in
theorem most_any (ao : Option Addr) (n cap : Nat) (i j : Nat) (hi : i < n) (hj : j < n) (hn : n ≤ 1048576) (h3 : 2 ≤ n) (w : World) : Calls Tryz.prog 134 #[.agg #[.slice ao n cap], .int .i64 (i : Int), .int .i64 (j : Int)] w (VP (.int .i64 (moI n i j)) w) := by
 have HB : Below w.heap.size w (w.alloc (.cells #[.slice ao n cap] 57)) := (Below.refl _ w).alloc (Nat.le_refl _) _
 have B0 := Blk.new w [.slice ao n cap] 57 rfl
 have s1 : IntKind.i64.wrap ((i : Int) - j) = (i : Int) - j := by rw [IntKind.wrap_i64]; omega
 have s2 : IntKind.i64.wrap ((j : Int) - i) = (j : Int) - i := by rw [IntKind.wrap_i64]; omega
 have s3 : IntKind.i64.wrap ((n : Int) - 1) = (n : Int) - 1 := by rw [IntKind.wrap_i64]; omega
 have b0 := B0.c 0 rfl
 go_enter Tryz.func134, Tryz.ntmps134
 go_upto_region 1 with fail
 generalize (w.alloc (.cells #[.slice ao n cap] 57)) = W at *
 go_upto_region 2 with fail
 generalize hz : (if (i : Int) - j < (j : Int) - i then (j : Int) - i else (i : Int) - j) = z at *
 have hz2 : (z = (i : Int) - j ∧ (j : Int) ≤ i) ∨ (z = (j : Int) - i ∧ (i : Int) ≤ j) := by
   rw [← hz]
   split <;> omega
 clear hz s1 s2
 by_cases a1 : z = 1
 · have HO : Hid (moI n i j = 1) := by show _ = _; unfold moI; rw [if_pos (by omega)]
   subst a1
   clear hz2 B0
   go_wp2
   go_ret
   exact ⟨by rw [HO.out]; rfl, HB⟩
 · have a1' : (z == 1) = false := beq_eq_false_iff_ne.2 a1
   by_cases a2 : z = (n : Int) - 1
   · have HO : Hid (moI n i j = 1) := by show _ = _; unfold moI; rw [if_pos (by omega)]
     have a2' : (z == (n : Int) - 1) = true := by rw [a2]; exact beq_self_eq_true _
     clear hz2 B0 a1 a2
     go_wp2
     go_ret
     exact ⟨by rw [HO.out]; rfl, HB⟩
   · have HO : Hid (moI n i j = 0) := by show _ = _; unfold moI; rw [if_neg (by omega)]
     have a2' : (z == (n : Int) - 1) = false := beq_eq_false_iff_ne.2 a2
     clear hz2 B0 a1 a2
     go_wp2
     go_ret
     exact ⟨by rw [HO.out]; rfl, HB⟩
set_option maxRecDepth 100000 in
set_option maxHeartbeats 4000000 in
theorem wrong_any (ao : Option Addr) (n cap : Nat) (p : Ps) (hn : n ≤ 1048576) (w : World) (hS : SpIn w ao n p) : Calls Tryz.prog 81 #[.agg #[.slice ao n cap]] w (VP (.bool (decide (¬ (∀ i, i < n → spotOk (p i).1 (p i).2 = true)))) w) := by
 have B0 := Blk.new w [.slice ao n cap] 57 rfl
 have HB0 : Below w.heap.size w (w.alloc (.cells #[.slice ao n cap] 57)) := (Below.refl _ w).alloc (Nat.le_refl _) _
 have hmI : (n : Int) ≤ 1048576 := by omega
 have HS : Hid (SpIn (w.alloc (.cells #[.slice ao n cap] 57)) ao n p) := hS.step HB0
 clear hS
 go_enter Tryz.func81, Tryz.ntmps81
 have b0 := B0.c 0 rfl
 go_wp2_with fail
 generalize (w.alloc (.cells #[.slice ao n cap] 57)) = W1 at *
 go_loopw [8] (fun i wr => ∃ c : Nat, c ≤ n ∧ i = .int .i64 c ∧ (∀ j, j < c → spotOk (p j).1 (p j).2 = true) ∧ Below W1.heap.size W1 wr) (fun i _ => n - (intOf i).toNat)
 case atStart => exact ⟨0, by omega, rfl, fun j hj => by omega, Below.refl _ _⟩
 case round =>
   obtain ⟨c, hc, rfl, hall, HB⟩ := hrel
   have HA : Hid (∀ j, j < c → spotOk (p j).1 (p j).2 = true) := hall
   clear hall b0
   by_cases hcn : c < n
   · obtain ⟨A, off, rfl, hA, q0, q1⟩ := HS.out.step HB c hcn
     have hcI : (c : Int) < n := by omega
     clear B0
     go_wp2_with fail
     refine (implSpotOk_any (p c).1 (p c).2 _ rfl _).mono ?_
     rintro e w1 ⟨rfl, hB⟩
     replace HB := (HB.alloc HB.size _).trans (hB.mono (HB.alloc HB.size _).size)
     clear hB q0 q1 hA
     by_cases hk : spotOk (p c).1 (p c).2 = true
     · rw [hk]
       have HK : Hid (spotOk (p c).1 (p c).2 = true) := hk
       clear hk
       go_wp2
       go_roundw
       case rel => exact ⟨c + 1, by omega, by go_num, fun j hj => by
         rcases Nat.lt_or_ge j c with h | h
         · exact HA.out j h
         · obtain rfl : j = c := by omega
           exact HK.out, HB⟩
       case measure => simp [intOf]; omega
     · have HO : Hid (decide (¬ (∀ i, i < n → spotOk (p i).1 (p i).2 = true)) = true) := decide_eq_true (fun h => hk (h c hcn))
       rw [Bool.eq_false_iff.2 hk]
       have HBF := HB0.trans (HB.mono HB0.size)
       clear hk
       go_wp2
       go_ret
       exact ⟨by rw [HO.out]; rfl, HBF⟩
   · obtain rfl : c = n := by omega
     have HO : Hid (decide (¬ (∀ i, i < c → spotOk (p i).1 (p i).2 = true)) = false) := decide_eq_false (fun h => h HA.out)
     have HBF := HB0.trans (HB.mono HB0.size)
     clear HA HS B0
     go_wp2
     go_ret
     exact ⟨by rw [HO.out]; rfl, HBF⟩
theorem eqSp2 (x y u v : Int) (w : World) : (Op.equalIn 10000 51 (Sp x y) (Sp u v)).run Tryz.prog w = .ok (decide (x = u) && decide (y = v)) w := by
 have u3 := Tryz.underlying2
 have a3 := Tryz.isAgg2
 have z3 := Tryz.sizeOf2
 rw [show (10000 : Nat) = 9999 + 1 from rfl, Op.equalIn]
 simp only [Sem.run_bind, run_underlying Tryz.underlying51, Result.andThen_ok]
 go_simp
 by_cases h1 : x = u
 · by_cases h2 : y = v
   · simp [h1, h2]
   · simp [h1, h2]
 · simp [h1]
def amB (n : Nat) (p : Ps) (x y : Int) : Bool := decide (∃ i, i < n ∧ (p i).1 = x ∧ (p i).2 = y)
set_option maxRecDepth 100000 in
set_option maxHeartbeats 4000000 in
theorem index_any (ao : Option Addr) (n cap : Nat) (p : Ps) (x y : Int) (hn : n ≤ 1048576) (w : World) (hS : SpIn w ao n p) : Calls Tryz.prog 171 #[.slice ao n cap, Sp x y] w (fun e w' => ∃ k : Int, e = .returned (.int .i64 k) ∧ decide (0 ≤ k) = amB n p x y ∧ Below w.heap.size w w') := by
 have B0 := Blk.new w [.int .i64 x, .int .i64 y] 51 rfl
 have HB0 : Below w.heap.size w (w.alloc (.cells #[.int .i64 x, .int .i64 y] 51)) := (Below.refl _ w).alloc (Nat.le_refl _) _
 have hmI : (n : Int) ≤ 1048576 := by omega
 have HS : Hid (SpIn (w.alloc (.cells #[.int .i64 x, .int .i64 y] 51)) ao n p) := hS.step HB0
 clear hS
 go_enter Tryz.func171, Tryz.ntmps171
 go_wp2_with fail
 generalize (w.alloc (.cells #[.int .i64 x, .int .i64 y] 51)) = W1 at *
 go_loopw [8] (fun i wr => ∃ c : Nat, c ≤ n ∧ i = .int .i64 c ∧ (∀ j, j < c → ¬ ((p j).1 = x ∧ (p j).2 = y)) ∧ Below W1.heap.size W1 wr) (fun i _ => n - (intOf i).toNat)
 case atStart => exact ⟨0, by omega, rfl, fun j hj => by omega, Below.refl _ _⟩
 case round =>
   obtain ⟨c, hc, rfl, hall, HB⟩ := hrel
   have HA : Hid (∀ j, j < c → ¬ ((p j).1 = x ∧ (p j).2 = y)) := hall
   clear hall
   by_cases hcn : c < n
   · obtain ⟨A, off, rfl, hA, q0, q1⟩ := HS.out.step HB c hcn
     have hcI : (c : Int) < n := by omega
     replace B0 := B0.step HB
     have b0 := B0.c 0 rfl; have b1 := B0.c 1 rfl
     have EQ := eqSp2 x y (p c).1 (p c).2
     have KS : (fun w' : World => w'.cell? ⟨w.heap.size, 0, none⟩ = some (.int .i64 x) ∧ w'.cell? ⟨w.heap.size, 1, none⟩ = some (.int .i64 y) ∧ w'.cell? ⟨A, off + c * 2, none⟩ = some (.int .i64 (p c).1) ∧ w'.cell? ⟨A, off + c * 2 + 1, none⟩ = some (.int .i64 (p c).2)) wr := ⟨b0, b1, q0, q1⟩
     go_upto_region 4 with fail
     go_region_held3 (fun w' : World => w'.cell? ⟨w.heap.size, 0, none⟩ = some (.int .i64 x) ∧ w'.cell? ⟨w.heap.size, 1, none⟩ = some (.int .i64 y) ∧ w'.cell? ⟨A, off + c * 2, none⟩ = some (.int .i64 (p c).1) ∧ w'.cell? ⟨A, off + c * 2 + 1, none⟩ = some (.int .i64 (p c).2)) (exact KS) (fail)
     all_goals have HBF := HB0.trans (HB.drew.mono HB0.size)
     all_goals clear KS b0 b1 q0 q1 EQ B0 hA HS
     all_goals by_cases h : x = (p c).1 ∧ y = (p c).2
     all_goals first
       | (obtain ⟨h1, h2⟩ := h
          have HO : Hid (decide (0 ≤ (c : Int)) = amB n p x y) := by
            show _ = _
            rw [decide_eq_true (by omega), eq_comm]
            exact decide_eq_true ⟨c, hcn, h1.symm, h2.symm⟩
          have d1 : (decide (x = (p c).1) && decide (y = (p c).2)) = true := by simp [h1, h2]
          rw [d1]
          clear d1 h1 h2 HA
          go_wp2
          go_ret
          exact ⟨(c : Int), rfl, HO.out, HBF⟩)
       | (have d1 : (decide (x = (p c).1) && decide (y = (p c).2)) = false := by
            rw [Bool.eq_false_iff]
            intro hh
            simp at hh
            exact h hh
          have HH : Hid (¬ (x = (p c).1 ∧ y = (p c).2)) := h
          rw [d1]
          clear d1 h HBF
          have HBD := HB.drew
          clear HB
          go_wp2
          go_roundw)
     case rel => exact ⟨c + 1, by omega, by go_num, fun j hj => by
       rcases Nat.lt_or_ge j c with h | h
       · exact HA.out j h
       · obtain rfl : j = c := by omega
         exact fun k => HH.out ⟨k.1.symm, k.2.symm⟩, HBD⟩
     case measure => simp [intOf]; omega
   · obtain rfl : c = n := by omega
     have HO : Hid (decide (0 ≤ (-1 : Int)) = amB c p x y) := by
       show _ = _
       rw [decide_eq_false (by omega), eq_comm]
       exact decide_eq_false (fun ⟨i, hi, h⟩ => HA.out i hi h)
     have HBF := HB0.trans (HB.mono HB0.size)
     clear HA HS B0
     go_wp2
     go_ret
     exact ⟨-1, rfl, HO.out, HBF⟩
set_option maxRecDepth 100000 in
set_option maxHeartbeats 4000000 in
theorem contains_any (ao : Option Addr) (n cap : Nat) (p : Ps) (x y : Int) (hn : n ≤ 1048576) (w : World) (hS : SpIn w ao n p) : Calls Tryz.prog 133 #[.slice ao n cap, Sp x y] w (VP (.bool (amB n p x y)) w) := by
 have B0 := Blk.new w [.int .i64 x, .int .i64 y] 51 rfl
 have HB0 : Below w.heap.size w (w.alloc (.cells #[.int .i64 x, .int .i64 y] 51)) := (Below.refl _ w).alloc (Nat.le_refl _) _
 have HS := hS.step HB0
 clear hS
 have b0 := B0.c 0 rfl; have b1 := B0.c 1 rfl
 go_enter Tryz.func133, Tryz.ntmps133
 go_wp2_with fail
 refine (index_any ao n cap p x y hn _ HS).mono ?_
 rintro e w1 ⟨k, rfl, hk, hB⟩
 have HBF := HB0.trans (hB.mono HB0.size)
 have HO : Hid (decide (0 ≤ k) = amB n p x y) := hk
 clear hB B0 b0 b1 HS hk
 go_wp2
 go_ret
 exact ⟨by rw [← HO.out]; rfl, HBF⟩
set_option maxRecDepth 100000 in
set_option maxHeartbeats 4000000 in
theorem twice_any (ao : Option Addr) (n cap : Nat) (p : Ps) (hn : n ≤ 1048576) (w : World) (hS : SpIn w ao n p) (hcap : n ≤ cap) (hcap2 : cap ≤ 9223372036854775807) : Calls Tryz.prog 82 #[.agg #[.slice ao n cap]] w (VP (.bool (decide (¬ OneN n p))) w) := by
 have B0 := Blk.new w [.slice ao n cap] 57 rfl
 have HB0 : Below w.heap.size w (w.alloc (.cells #[.slice ao n cap] 57)) := (Below.refl _ w).alloc (Nat.le_refl _) _
 have hmI : (n : Int) ≤ 1048576 := by omega
 have hcI1 : (n : Int) ≤ cap := by omega
 have hcI2 : (cap : Int) ≤ 9223372036854775807 := by omega
 have HS : Hid (SpIn (w.alloc (.cells #[.slice ao n cap] 57)) ao n p) := hS.step HB0
 clear hS
 go_enter Tryz.func82, Tryz.ntmps82
 have b0 := B0.c 0 rfl
 go_wp2_with fail
 generalize (w.alloc (.cells #[.slice ao n cap] 57)) = W1 at *
 go_loopw [8] (fun i wr => ∃ c : Nat, c ≤ n ∧ i = .int .i64 c ∧ (∀ j, j < c → ∀ k, k < j → p j ≠ p k) ∧ Below W1.heap.size W1 wr) (fun i _ => n - (intOf i).toNat)
 case atStart => exact ⟨0, by omega, rfl, fun j hj => by omega, Below.refl _ _⟩
 case round =>
   obtain ⟨c, hc, rfl, hall, HB⟩ := hrel
   have HA : Hid (∀ j, j < c → ∀ k, k < j → p j ≠ p k) := hall
   clear hall b0
   by_cases hcn : c < n
   · obtain ⟨A, off, rfl, hA, q0, q1⟩ := HS.out.step HB c hcn
     have hcI : (c : Int) < n := by omega
     have hcc : (c : Int) ≤ cap := by omega
     have hc0 : (0 : Int) ≤ c := by omega
     have HSc : SpIn wr (some ⟨A, off, none⟩) c p := fun i hi => HS.out.step HB i (by omega)
     replace B0 := B0.step HB
     have hB1 := (Below.refl wr.heap.size wr).alloc (Nat.le_refl _) (.cells #[.int .i64 (p c).1, .int .i64 (p c).2] 51)
     have HBA := HB.alloc HB.size (.cells #[.int .i64 (p c).1, .int .i64 (p c).2] 51)
     have Bs := Blk.new wr [.int .i64 (p c).1, .int .i64 (p c).2] 51 rfl
     replace B0 := B0.step hB1
     replace HSc := HSc.step hB1
     have CO := fun w h => contains_any (some ⟨A, off, none⟩) c cap p (p c).1 (p c).2 (by omega) w h
     have KS : (fun w' : World => w'.cell? ⟨w.heap.size, 0, none⟩ = some (.slice (some ⟨A, off, none⟩) n cap) ∧ w'.cell? ⟨wr.heap.size, 0, none⟩ = some (.int .i64 (p c).1) ∧ w'.cell? ⟨wr.heap.size, 1, none⟩ = some (.int .i64 (p c).2)) (wr.alloc (.cells #[.int .i64 (p c).1, .int .i64 (p c).2] 51)) := ⟨B0.c 0 rfl, Bs.c 0 rfl, Bs.c 1 rfl⟩
     clear hB1 HB
     go_upto_region 4 with fail
     generalize wr.alloc (.cells #[.int .i64 (p c).1, .int .i64 (p c).2] 51) = W2 at *
     go_region_held3 (fun w' : World => w'.cell? ⟨w.heap.size, 0, none⟩ = some (.slice (some ⟨A, off, none⟩) n cap) ∧ w'.cell? ⟨wr.heap.size, 0, none⟩ = some (.int .i64 (p c).1) ∧ w'.cell? ⟨wr.heap.size, 1, none⟩ = some (.int .i64 (p c).2)) (first | (exact KS) | (exact KS'))
       (first
         | (go_at_call 133; refine (CO _ (by with_reducible first | exact HSc | exact HSc.drew)).mono ?_; rintro e w1 ⟨rfl, hB⟩; (first | (have KS' : (fun w' : World => w'.cell? ⟨w.heap.size, 0, none⟩ = some (.slice (some ⟨A, off, none⟩) n cap) ∧ w'.cell? ⟨wr.heap.size, 0, none⟩ = some (.int .i64 (p c).1) ∧ w'.cell? ⟨wr.heap.size, 1, none⟩ = some (.int .i64 (p c).2)) w1 := ⟨(B0.step hB).c 0 rfl, (Bs.step hB).c 0 rfl, (Bs.step hB).c 1 rfl⟩; have HBN := HBA.trans (hB.mono HBA.size)) | (have KS' : (fun w' : World => w'.cell? ⟨w.heap.size, 0, none⟩ = some (.slice (some ⟨A, off, none⟩) n cap) ∧ w'.cell? ⟨wr.heap.size, 0, none⟩ = some (.int .i64 (p c).1) ∧ w'.cell? ⟨wr.heap.size, 1, none⟩ = some (.int .i64 (p c).2)) w1 := ⟨(B0.drew.step hB).c 0 rfl, (Bs.drew.step hB).c 0 rfl, (Bs.drew.step hB).c 1 rfl⟩; have HBN := HBA.drew.trans (hB.mono HBA.drew.size))); clear hB))
     all_goals clear KS KS' CO HSc Bs B0 HBA hA q0 q1
     all_goals cases ham : amB c p (p c).1 (p c).2
     all_goals first
       | (have HN : Hid (∀ k, k < c → p c ≠ p k) := fun k hk e => by
            have := of_decide_eq_false ham
            exact this ⟨k, hk, by rw [e], by rw [e]⟩
          clear ham
          go_wp2
          go_roundw)
       | (have HO : Hid (decide (¬ OneN n p) = true) := decide_eq_true (fun h => by
            obtain ⟨k, hk, e1, e2⟩ := of_decide_eq_true ham
            exact h c hcn k hk (Prod.ext e1.symm e2.symm))
          have HBF := HB0.trans (HBN.mono HB0.size)
          clear ham
          go_wp2
          go_ret
          exact ⟨by rw [HO.out]; rfl, HBF⟩)
     case rel => exact ⟨c + 1, by omega, by go_num, fun j hj => by
       rcases Nat.lt_or_ge j c with h | h
       · exact HA.out j h
       · obtain rfl : j = c := by omega
         exact HN.out, HBN⟩
     case measure => simp [intOf]; omega
   · obtain rfl : c = n := by omega
     have HO : Hid (decide (¬ OneN c p) = false) := decide_eq_false (fun h => h HA.out)
     have HBF := HB0.trans (HB.mono HB0.size)
     clear HA HS B0
     go_wp2
     go_ret
     exact ⟨by rw [HO.out]; rfl, HBF⟩
def Div2P (k : Nat) (x y : Int) (w : World) (e : Ending) (w' : World) : Prop :=
 ∃ (s2 : Bool) (o2 : Option Addr) (n2 c2 : Nat) (d2 : List Int) (s3 : Bool) (o3 : Option Addr) (n3 c3 : Nat) (d3 : List Int), e = .returned (.tuple #[.agg #[.bool s2, .slice o2 n2 c2], .agg #[.bool s3, .slice o3 n3 c3]]) ∧ IsNum w' s2 o2 n2 c2 d2 (x / y) (k + 3) ∧ IsNum w' s3 o3 n3 c3 d3 (x % y) (k + 3) ∧ Below w.heap.size w w'
theorem num_put {w : World} {s : Bool} {ao : Option Addr} {n cap : Nat} {ds : List Int} {z : Int} {k R : Nat} {p : Bool} {q : Option Addr} {q1 q2 : Nat} (h : IsNum w s ao n cap ds z k) (B : Blk w R [.bool p, .slice q q1 q2]) (u0 u1 : Value) : IsNum ((w.setCell ⟨R, 0, none⟩ u0).setCell ⟨R, 1, none⟩ u1) s ao n cap ds z k := by
 have h1 := h.rd.set u0 (B.c 0 rfl) (by intro x e; cases e)
 have B1 := B.setI 0 (by simp) u0
 have h2 := h1.set u1 (B1.c 1 rfl) (by intro x e; cases e)
 exact ⟨h.neg, h.len, h.cap, h2, h.nrm, h.val, h.le⟩
theorem num_more {w : World} {s : Bool} {ao : Option Addr} {n cap : Nat} {ds : List Int} {z : Int} {k k' : Nat} (h : IsNum w s ao n cap ds z k) (hk : k ≤ k') : IsNum w s ao n cap ds z k' := ⟨h.neg, h.len, h.cap, h.rd, h.nrm, h.val, Nat.le_trans h.le hk⟩
theorem num_drawn {w : World} {s : Bool} {ao : Option Addr} {n cap : Nat} {ds : List Int} {z : Int} {k : Nat} (h : IsNum w s ao n cap ds z k) : IsNum w.drew s ao n cap ds z k := ⟨h.neg, h.len, h.cap, h.rd, h.nrm, h.val, h.le⟩
theorem div_done {w W : World} {s2 s3 : Bool} {o2 o3 : Option Addr} {n2 c2 n3 c3 : Nat} {d2 d3 : List Int} {x y : Int} {k : Nat} (HB : Below w.heap.size w W) (NU : IsNum W s2 o2 n2 c2 d2 (x / y) (k + 3)) (NV : IsNum W s3 o3 n3 c3 d3 (x % y) (k + 3)) (C : Blk W (w.heap.size + 1 + 1) [.bool false, .slice none 0 0]) (D : Blk W (w.heap.size + 1 + 1 + 1) [.bool false, .slice none 0 0]) :
   Div2P k x y w (.returned (.tuple #[.agg #[.bool s2, .slice o2 n2 c2], .agg #[.bool s3, .slice o3 n3 c3]])) ((((W.setCell ⟨w.heap.size + 1 + 1, 0, none⟩ (.bool s2)).setCell ⟨w.heap.size + 1 + 1, 1, none⟩ (.slice o2 n2 c2)).setCell ⟨w.heap.size + 1 + 1 + 1, 0, none⟩ (.bool s3)).setCell ⟨w.heap.size + 1 + 1 + 1, 1, none⟩ (.slice o3 n3 c3)) := by
 have D' := (D.setO (p := ⟨w.heap.size + 1 + 1, 0, none⟩) (by simp) (.bool s2)).setO (p := ⟨w.heap.size + 1 + 1, 1, none⟩) (by simp) (.slice o2 n2 c2)
 refine ⟨s2, o2, n2, c2, d2, s3, o3, n3, c3, d3, rfl, num_put (num_put NU C _ _) D' _ _, num_put (num_put NV C _ _) D' _ _, ?_⟩
 exact (((HB.setCell (p := ⟨w.heap.size + 1 + 1, 0, none⟩) (by simp; omega) _).setCell (p := ⟨w.heap.size + 1 + 1, 1, none⟩) (by simp; omega) _).setCell (p := ⟨w.heap.size + 1 + 1 + 1, 0, none⟩) (by simp; omega) _).setCell (p := ⟨w.heap.size + 1 + 1 + 1, 1, none⟩) (by simp; omega) _
theorem div_drawn {w W : World} {k : Nat} {x y : Int} {e : Ending} (h : Div2P k x y w e W) : Div2P k x y w e W.drew := by
 obtain ⟨s2, o2, n2, c2, d2, s3, o3, n3, c3, d3, e, h1, h2, hB⟩ := h
 exact ⟨s2, o2, n2, c2, d2, s3, o3, n3, c3, d3, e, num_drawn h1, num_drawn h2, hB.drew⟩
theorem div_alloc {w W : World} {k : Nat} {x y : Int} {e : Ending} (h : Div2P k x y w e W) (o : Obj) : Div2P k x y w e (W.alloc o) := by
 obtain ⟨s2, o2, n2, c2, d2, s3, o3, n3, c3, d3, e, h1, h2, hB⟩ := h
 exact ⟨s2, o2, n2, c2, d2, s3, o3, n3, c3, d3, e, h1.below ((Below.refl _ _).alloc (Nat.le_refl _) o), h2.below ((Below.refl _ _).alloc (Nat.le_refl _) o), hB.alloc hB.size o⟩
set_option maxRecDepth 100000 in
set_option maxHeartbeats 4000000 in
theorem div_any (s t : Bool) (ao bo : Option Addr) (n m ca cb k : Nat) (xs ys : List Int) (x y : Int) (w : World) (hx : IsNum w s ao n ca xs x k) (hy : IsNum w t bo m cb ys y k) (hk : k ≤ 9000) (hy0 : y ≠ 0) :
   Calls Tryz.prog 145 #[.agg #[.bool s, .slice ao n ca], .agg #[.bool t, .slice bo m cb]] w (Div2P k x y w) := by
 obtain ⟨Q, R, eQ, eR, hQ0, hR0, hR1, hqr⟩ := div_parts x y hy0
 have DS := div_signs hy0 hR0 hR1 hqr
 have hs : Hid (s = decide (x < 0)) := hx.neg
 have ht : Hid (t = decide (y < 0)) := hy.neg
 have A := (((Blk.new w [.bool s, .slice ao n ca] 88 rfl).alloc (.cells #[.bool t, .slice bo m cb] 88)).alloc (.cells #[.bool false, .slice none 0 0] 88)).alloc (.cells #[.bool false, .slice none 0 0] 88)
 have B := ((Blk.new (w.alloc (.cells #[.bool s, .slice ao n ca] 88)) [.bool t, .slice bo m cb] 88 (g := w.heap.size + 1) (by simp)).alloc (.cells #[.bool false, .slice none 0 0] 88)).alloc (.cells #[.bool false, .slice none 0 0] 88)
 have C := (Blk.new ((w.alloc (.cells #[.bool s, .slice ao n ca] 88)).alloc (.cells #[.bool t, .slice bo m cb] 88)) [.bool false, .slice none 0 0] 88 (g := w.heap.size + 1 + 1) (by simp)).alloc (.cells #[.bool false, .slice none 0 0] 88)
 have D := Blk.new (((w.alloc (.cells #[.bool s, .slice ao n ca] 88)).alloc (.cells #[.bool t, .slice bo m cb] 88)).alloc (.cells #[.bool false, .slice none 0 0] 88)) [.bool false, .slice none 0 0] 88 (g := w.heap.size + 1 + 1 + 1) (by simp)
 have HB0 : Below w.heap.size w ((((w.alloc (.cells #[.bool s, .slice ao n ca] 88)).alloc (.cells #[.bool t, .slice bo m cb] 88)).alloc (.cells #[.bool false, .slice none 0 0] 88)).alloc (.cells #[.bool false, .slice none 0 0] 88)) := ((((Below.refl _ _).alloc (Nat.le_refl _) _).alloc (by simp) _).alloc (by simp; omega) _).alloc (by simp; omega) _
 replace hx := hx.below HB0
 replace hy := hy.below HB0
 have hyp : 0 < val ys := by rw [hy.val]; omega
 go_enter Tryz.func145, Tryz.ntmps145
 go_wp2_with fail
 refine (divAbs_any ao bo n m ca cb xs ys _ hx.len hy.len hx.nrm hy.nrm hx.rd hy.rd hx.cap (by have := hx.le; omega) (by have := hy.le; omega) hyp).mono ?_
 rintro e w1 ⟨qo, qn, qc, qs, ro, rn, rc, rs, rfl, ⟨a1, a2, a3, a4, a5, a6⟩, ⟨b1, b2, b3, b4, b5, b6⟩, hB⟩
 rw [hx.val, hy.val] at a5 b5
 rw [eQ] at a5
 rw [eR] at b5
 have hnk := hx.le
 replace hy := hy.below hB
 replace A := A.step hB; replace B := B.step hB; replace C := C.step hB; replace D := D.step hB
 have HB1 : Below w.heap.size w w1 := HB0.trans (hB.mono HB0.size)
 clear hB HB0 hx hyp
 have p0 := A.c 0 rfl; have p1 := A.c 1 rfl; have pl := A.lt; have q0 := B.c 0 rfl; have q1 := B.c 1 rfl; have ql := B.lt
 go_wp2_with fail
 refine (trim_any _ qo qn qc qs _ a1 a2 a4.1 a6 (by omega)).mono ?_
 rintro e w2 ⟨s2, o2, n2, c2, d2, rfl, t1, t2, t3, t4, t5, t6, t7, hB⟩
 have NU : IsNum w2 s2 o2 n2 c2 d2 (if s = t then Q else -Q) (k + 1) := num_of t1 t2 (by omega) t4 (t5.trans a5) (by rw [t6, a5]) t7 (by split <;> omega) (by intro hz; cases s <;> cases t <;> simp at hz ⊢ <;> omega)
 replace b6 := b6.below hB (Nat.le_refl _)
 replace hy := hy.below hB
 replace A := A.step hB; replace B := B.step hB; replace C := C.step hB; replace D := D.step hB
 have HB2 : Below w.heap.size w w2 := HB1.trans (hB.mono HB1.size)
 clear hB HB1 t1 t2 t3 t4 t5 t6 t7 a1 a2 a3 a4 a5 a6 p0 p1 pl q0 q1 ql
 have p0 := A.c 0 rfl; have p1 := A.c 1 rfl; have pl := A.lt; have q0 := B.c 0 rfl; have q1 := B.c 1 rfl; have ql := B.lt
 have hDU := D.lt
 have U := Blk.new w2 [.bool s2, .slice o2 n2 c2] 88 rfl
 have hal : Below w2.heap.size w2 (w2.alloc (.cells #[.bool s2, .slice o2 n2 c2] 88)) := (Below.refl _ _).alloc (Nat.le_refl _) _
 replace A := A.step hal; replace B := B.step hal; replace C := C.step hal; replace D := D.step hal
 replace NU := NU.below hal
 replace hy := hy.below hal
 replace b6 := b6.below hal (Nat.le_refl _)
 replace HB2 := HB2.alloc HB2.size (.cells #[.bool s2, .slice o2 n2 c2] 88)
 clear hal
 go_wp2_with fail
 refine (trim_any s ro rn rc rs _ b1 b2 b4.1 b6 (by omega)).mono ?_
 rintro e w3 ⟨s3, o3, n3, c3, d3, rfl, t1, t2, t3, t4, t5, t6, t7, hB⟩
 have NV : IsNum w3 s3 o3 n3 c3 d3 (if s then -R else R) (k + 1) := num_of t1 t2 (by omega) t4 (t5.trans b5) (by rw [t6, b5]) t7 (by split <;> omega) (by intro hz; cases s <;> simp at hz ⊢ <;> omega)
 replace hy := hy.below hB
 replace NU := NU.below hB
 replace A := A.step hB; replace B := B.step hB; replace C := C.step hB; replace D := D.step hB; replace U := U.step hB
 have HB3 : Below w.heap.size w w3 := HB2.trans (hB.mono HB2.size)
 have hUl := U.lt; have hBl := B.lt; have hCl := C.lt; have hDl := D.lt
 have nBU : w.heap.size + 1 + 1 + 1 < w2.heap.size := hDU
 clear hB HB2 t1 t2 t3 t4 t5 t6 t7 b1 b2 b3 b4 b5 b6 p0 p1 pl q0 q1 ql
 have q0 := B.c 0 rfl; have q1 := B.c 1 rfl; have ql := B.lt; have u0 := U.c 0 rfl; have uf0 := U.f 0 rfl; have u1 := U.c 1 rfl; have uf1 := U.f 1 rfl; have ul := U.lt; have c0 := C.c 0 rfl; have cf0 := C.f 0 rfl; have c1 := C.c 1 rfl; have cf1 := C.f 1 rfl; have cl := C.lt; have d0 := D.c 0 rfl; have df0 := D.f 0 rfl; have d1 := D.c 1 rfl; have df1 := D.f 1 rfl; have dl := D.lt
 have NU3 := NU; have NV3 := NV; have C3 := C; have D3 := D; have HB3' := HB3
 have V := Blk.new w3 [.bool s3, .slice o3 n3 c3] 88 rfl
 have hal : Below w3.heap.size w3 (w3.alloc (.cells #[.bool s3, .slice o3 n3 c3] 88)) := (Below.refl _ _).alloc (Nat.le_refl _) _
 replace B := B.step hal; replace C := C.step hal; replace D := D.step hal; replace U := U.step hal
 replace NU := NU.below hal
 replace NV := NV.below hal
 replace hy := hy.below hal
 have HB4 := HB3.alloc HB3.size (.cells #[.bool s3, .slice o3 n3 c3] 88)
 have nUV : w2.heap.size < w3.heap.size := hUl
 clear hal HB3
 have hneg := NV.neg
 by_cases hv : s3 = true
 · subst hv
   have es : s = true := by
     apply Decidable.byContradiction
     intro h
     rw [Bool.eq_false_iff.2 h] at hneg
     simp at hneg
     omega
   have hRp : 0 < R := by rw [es] at hneg; simp at hneg; exact hneg
   have hx0 : x < 0 := by have := hs.out; rw [es] at this; simpa using this.symm
   subst es
   obtain ⟨-, -, -, -, D5, D6⟩ := DS
   have J : ∀ W, Below (w3.alloc (.cells #[.bool true, .slice o3 n3 c3] 88)).heap.size (w3.alloc (.cells #[.bool true, .slice o3 n3 c3] 88)) W → (Blk W (w.heap.size + 1) [.bool t, .slice bo m cb] ∧ Blk W (w.heap.size + 1 + 1) [.bool false, .slice none 0 0] ∧ Blk W (w.heap.size + 1 + 1 + 1) [.bool false, .slice none 0 0] ∧ Blk W w2.heap.size [.bool s2, .slice o2 n2 c2] ∧ Blk W w3.heap.size [.bool true, .slice o3 n3 c3]) ∧ IsNum W s2 o2 n2 c2 d2 (if true = t then Q else -Q) (k + 1) ∧ IsNum W true o3 n3 c3 d3 (-R) (k + 1) ∧ IsNum W t bo m cb ys y k ∧ Below w.heap.size w W :=
     fun W h => ⟨⟨B.step h, C.step h, D.step h, U.step h, V.step h⟩, NU.below h, by simpa using NV.below h, hy.below h, HB4.trans (h.mono HB4.size)⟩
   clear NU NV NU3 NV3 C3 D3 HB3' A B C D U V HB4 hy hneg hs
   cases t
   · have hyp : 0 < y := by have := ht.out; simp at this; omega
     go_upto_region 8 with fail
     generalize w3.alloc (.cells #[.bool true, .slice o3 n3 c3] 88) = W0 at *
     obtain ⟨⟨jb, jc, jd, ju, jv⟩, jn, jr, jy, jB⟩ := J W0 (Below.refl _ _)
     clear u0 u1 uf0 uf1 ul q0 q1 ql c0 c1 cf0 cf1 cl d0 d1 df0 df1 dl
     have u0 := ju.c 0 rfl; have uf0 := ju.f 0 rfl; have u1 := ju.c 1 rfl; have uf1 := ju.f 1 rfl; have ul := ju.lt
     go_region_with ((first
       | (go_at_call 91; refine (int_any 1 _ (by decide) (by decide)).mono ?_; rintro e w5 ⟨s5, o5, n5, c5, d5, rfl, N5, hB⟩; have K5 : Below W0.heap.size W0 w5 := ((Below.refl _ _).drew).trans hB; obtain ⟨⟨ib, ic, id', iu, iv⟩, jn5, ir, iy, iB⟩ := J w5 K5; have h0 := iu.c 0 rfl; have hf0 := iu.f 0 rfl; have h1 := iu.c 1 rfl; have hf1 := iu.f 1 rfl; have hl := iu.lt; clear hB)
       | (go_at_call 155; refine (sub_any s2 s5 o2 o5 n2 n5 c2 c5 (k + 2) d2 d5 _ _ _ (num_more jn5 (by omega)) (num_more N5 (by omega)) (by omega)).mono ?_; rintro e w6 ⟨s6, o6, n6, c6, d6, rfl, N6, hB⟩; have K6 : Below W0.heap.size W0 w6 := K5.trans (hB.mono K5.size); obtain ⟨⟨lb, lc, ld, lu, lv⟩, ln, lr, ly, lB⟩ := J w6 K6; have i0 := lu.c 0 rfl; have if0 := lu.f 0 rfl; have i1 := lu.c 1 rfl; have if1 := lu.f 1 rfl; have il := lu.lt; clear hB)))
     all_goals have g1 : w.heap.size + 1 ≠ w2.heap.size := by omega
     all_goals have g2 : w.heap.size + 1 + 1 ≠ w2.heap.size := by omega
     all_goals have g3 : w.heap.size + 1 + 1 + 1 ≠ w2.heap.size := by omega
     all_goals have g4 : w3.heap.size ≠ w2.heap.size := by omega
     all_goals have B6 := ((lb.setO (p := ⟨w2.heap.size, 0, none⟩) (by exact g1) (.bool s6)).setO (p := ⟨w2.heap.size, 1, none⟩) (by exact g1) (.slice o6 n6 c6))
     all_goals have C6 := ((lc.setO (p := ⟨w2.heap.size, 0, none⟩) (by exact g2) (.bool s6)).setO (p := ⟨w2.heap.size, 1, none⟩) (by exact g2) (.slice o6 n6 c6))
     all_goals have D6' := ((ld.setO (p := ⟨w2.heap.size, 0, none⟩) (by exact g3) (.bool s6)).setO (p := ⟨w2.heap.size, 1, none⟩) (by exact g3) (.slice o6 n6 c6))
     all_goals have V6 := ((lv.setO (p := ⟨w2.heap.size, 0, none⟩) (by exact g4) (.bool s6)).setO (p := ⟨w2.heap.size, 1, none⟩) (by exact g4) (.slice o6 n6 c6))
     all_goals have M6 := num_put N6 lu (.bool s6) (.slice o6 n6 c6)
     all_goals have R6 := num_put lr lu (.bool s6) (.slice o6 n6 c6)
     all_goals have Y6 := num_put ly lu (.bool s6) (.slice o6 n6 c6)
     all_goals have U6 := (lu.setI 0 (by simp) (.bool s6)).setI 1 (by simp) (.slice o6 n6 c6)
     all_goals have L6 := (lB.setCell (p := ⟨w2.heap.size, 0, none⟩) (by simp; omega) (.bool s6)).setCell (p := ⟨w2.heap.size, 1, none⟩) (by simp; omega) (.slice o6 n6 c6)
     all_goals clear u0 u1 uf0 uf1 ul h0 h1 hf0 hf1 hl i0 i1 if0 if1 il jb jc jd ju jv jn jr jy jB ib ic id' iu iv jn5 ir iy iB lb lc ld lu lv ln lr ly lB N5 N6 K5 K6 J
     all_goals generalize ((w6.setCell ⟨w2.heap.size, 0, none⟩ (.bool s6)).setCell ⟨w2.heap.size, 1, none⟩ (.slice o6 n6 c6)) = W6 at *
     all_goals (have v0 := V6.c 0 rfl; have v1 := V6.c 1 rfl; have vl := V6.lt; have x0 := B6.c 0 rfl; have x1 := B6.c 1 rfl; have xl := B6.lt)
     all_goals go_wp2_with fail
     all_goals refine (add_any true false o3 bo n3 m c3 cb (k + 1) d3 ys _ _ _ R6 (num_more Y6 (by omega)) (by omega)).mono ?_
     all_goals rintro e w7 ⟨s7, o7, n7, c7, d7, rfl, N7, hB⟩
     all_goals (replace C6 := C6.step hB; replace D6' := D6'.step hB; replace V6 := V6.step hB; replace U6 := U6.step hB; replace M6 := M6.below hB; replace L6 := L6.trans (hB.mono L6.size))
     all_goals clear hB v0 v1 vl x0 x1 xl
     all_goals have g5 : w.heap.size + 1 + 1 ≠ w3.heap.size := by omega
     all_goals have g6 : w.heap.size + 1 + 1 + 1 ≠ w3.heap.size := by omega
     all_goals have g7 : w2.heap.size ≠ w3.heap.size := by omega
     all_goals (have v0 := V6.c 0 rfl; have vf0 := V6.f 0 rfl; have v1 := V6.c 1 rfl; have vf1 := V6.f 1 rfl; have vl := V6.lt)
     all_goals have C7 := ((C6.setO (p := ⟨w3.heap.size, 0, none⟩) (by exact g5) (.bool s7)).setO (p := ⟨w3.heap.size, 1, none⟩) (by exact g5) (.slice o7 n7 c7))
     all_goals have D7 := ((D6'.setO (p := ⟨w3.heap.size, 0, none⟩) (by exact g6) (.bool s7)).setO (p := ⟨w3.heap.size, 1, none⟩) (by exact g6) (.slice o7 n7 c7))
     all_goals have U7 := ((U6.setO (p := ⟨w3.heap.size, 0, none⟩) (by exact g7) (.bool s7)).setO (p := ⟨w3.heap.size, 1, none⟩) (by exact g7) (.slice o7 n7 c7))
     all_goals have M7 := num_put M6 V6 (.bool s7) (.slice o7 n7 c7)
     all_goals have P7 := num_put N7 V6 (.bool s7) (.slice o7 n7 c7)
     all_goals have L7 := (L6.setCell (p := ⟨w3.heap.size, 0, none⟩) (by simp; omega) (.bool s7)).setCell (p := ⟨w3.heap.size, 1, none⟩) (by simp; omega) (.slice o7 n7 c7)
     all_goals obtain ⟨E1, E2⟩ := D5 hx0 hRp hyp
     all_goals rw [show (if true = false then Q else -Q) - 1 = x / y by rw [E1]; simp] at M7
     all_goals rw [show -R + y = x % y by rw [E2]] at P7
     all_goals have F := div_done (k := k) L7 M7 (num_more P7 (Nat.le_succ _)) C7 D7
     all_goals (have c0 := C7.c 0 rfl; have cf0 := C7.f 0 rfl; have c1 := C7.c 1 rfl; have cf1 := C7.f 1 rfl; have cl := C7.lt; have d0 := D7.c 0 rfl; have df0 := D7.f 0 rfl; have d1 := D7.c 1 rfl; have df1 := D7.f 1 rfl; have dl := D7.lt; have u0 := U7.c 0 rfl; have u1 := U7.c 1 rfl; have ul := U7.lt)
     all_goals clear C6 D6' V6 U6 M6 L6 C7 D7 U7 M7 P7 L7 N7 g1 g2 g3 g4 g5 g6 g7
     all_goals go_wp2
     all_goals go_region
     all_goals go_wp2
     all_goals refine bodyPost_ret (v := .tuple #[.agg #[.bool s6, .slice o6 n6 c6], .agg #[.bool s7, .slice o7 n7 c7]]) (by simp [results, Tryz.results145, go_sem, c0, c1, d0, d1]) rfl ?_
     all_goals exact div_drawn F
   · have hyp : y < 0 := by have := ht.out; simpa using this.symm
     go_upto_region 6 with fail
     generalize w3.alloc (.cells #[.bool true, .slice o3 n3 c3] 88) = W0 at *
     obtain ⟨⟨jb, jc, jd, ju, jv⟩, jn, jr, jy, jB⟩ := J W0 (Below.refl _ _)
     clear u0 u1 uf0 uf1 ul q0 q1 ql c0 c1 cf0 cf1 cl d0 d1 df0 df1 dl
     have u0 := ju.c 0 rfl; have uf0 := ju.f 0 rfl; have u1 := ju.c 1 rfl; have uf1 := ju.f 1 rfl; have ul := ju.lt
     go_region_with ((first
       | (go_at_call 91; refine (int_any 1 _ (by decide) (by decide)).mono ?_; rintro e w5 ⟨s5, o5, n5, c5, d5, rfl, N5, hB⟩; have K5 : Below W0.heap.size W0 w5 := ((Below.refl _ _).drew).trans hB; obtain ⟨⟨ib, ic, id', iu, iv⟩, jn5, ir, iy, iB⟩ := J w5 K5; have h0 := iu.c 0 rfl; have hf0 := iu.f 0 rfl; have h1 := iu.c 1 rfl; have hf1 := iu.f 1 rfl; have hl := iu.lt; clear hB)
       | (go_at_call 92; refine (add_any s2 s5 o2 o5 n2 n5 c2 c5 (k + 2) d2 d5 _ _ _ (num_more jn5 (by omega)) (num_more N5 (by omega)) (by omega)).mono ?_; rintro e w6 ⟨s6, o6, n6, c6, d6, rfl, N6, hB⟩; have K6 : Below W0.heap.size W0 w6 := K5.trans (hB.mono K5.size); obtain ⟨⟨lb, lc, ld, lu, lv⟩, ln, lr, ly, lB⟩ := J w6 K6; have i0 := lu.c 0 rfl; have if0 := lu.f 0 rfl; have i1 := lu.c 1 rfl; have if1 := lu.f 1 rfl; have il := lu.lt; clear hB)))
     all_goals have g1 : w.heap.size + 1 ≠ w2.heap.size := by omega
     all_goals have g2 : w.heap.size + 1 + 1 ≠ w2.heap.size := by omega
     all_goals have g3 : w.heap.size + 1 + 1 + 1 ≠ w2.heap.size := by omega
     all_goals have g4 : w3.heap.size ≠ w2.heap.size := by omega
     all_goals have B6 := ((lb.setO (p := ⟨w2.heap.size, 0, none⟩) (by exact g1) (.bool s6)).setO (p := ⟨w2.heap.size, 1, none⟩) (by exact g1) (.slice o6 n6 c6))
     all_goals have C6 := ((lc.setO (p := ⟨w2.heap.size, 0, none⟩) (by exact g2) (.bool s6)).setO (p := ⟨w2.heap.size, 1, none⟩) (by exact g2) (.slice o6 n6 c6))
     all_goals have D6' := ((ld.setO (p := ⟨w2.heap.size, 0, none⟩) (by exact g3) (.bool s6)).setO (p := ⟨w2.heap.size, 1, none⟩) (by exact g3) (.slice o6 n6 c6))
     all_goals have V6 := ((lv.setO (p := ⟨w2.heap.size, 0, none⟩) (by exact g4) (.bool s6)).setO (p := ⟨w2.heap.size, 1, none⟩) (by exact g4) (.slice o6 n6 c6))
     all_goals have M6 := num_put N6 lu (.bool s6) (.slice o6 n6 c6)
     all_goals have R6 := num_put lr lu (.bool s6) (.slice o6 n6 c6)
     all_goals have Y6 := num_put ly lu (.bool s6) (.slice o6 n6 c6)
     all_goals have U6 := (lu.setI 0 (by simp) (.bool s6)).setI 1 (by simp) (.slice o6 n6 c6)
     all_goals have L6 := (lB.setCell (p := ⟨w2.heap.size, 0, none⟩) (by simp; omega) (.bool s6)).setCell (p := ⟨w2.heap.size, 1, none⟩) (by simp; omega) (.slice o6 n6 c6)
     all_goals clear u0 u1 uf0 uf1 ul h0 h1 hf0 hf1 hl i0 i1 if0 if1 il jb jc jd ju jv jn jr jy jB ib ic id' iu iv jn5 ir iy iB lb lc ld lu lv ln lr ly lB N5 N6 K5 K6 J
     all_goals generalize ((w6.setCell ⟨w2.heap.size, 0, none⟩ (.bool s6)).setCell ⟨w2.heap.size, 1, none⟩ (.slice o6 n6 c6)) = W6 at *
     all_goals (have v0 := V6.c 0 rfl; have v1 := V6.c 1 rfl; have vl := V6.lt; have x0 := B6.c 0 rfl; have x1 := B6.c 1 rfl; have xl := B6.lt)
     all_goals go_wp2_with fail
     all_goals refine (sub_any true true o3 bo n3 m c3 cb (k + 1) d3 ys _ _ _ R6 (num_more Y6 (by omega)) (by omega)).mono ?_
     all_goals rintro e w7 ⟨s7, o7, n7, c7, d7, rfl, N7, hB⟩
     all_goals (replace C6 := C6.step hB; replace D6' := D6'.step hB; replace V6 := V6.step hB; replace U6 := U6.step hB; replace M6 := M6.below hB; replace L6 := L6.trans (hB.mono L6.size))
     all_goals clear hB v0 v1 vl x0 x1 xl
     all_goals have g5 : w.heap.size + 1 + 1 ≠ w3.heap.size := by omega
     all_goals have g6 : w.heap.size + 1 + 1 + 1 ≠ w3.heap.size := by omega
     all_goals have g7 : w2.heap.size ≠ w3.heap.size := by omega
     all_goals (have v0 := V6.c 0 rfl; have vf0 := V6.f 0 rfl; have v1 := V6.c 1 rfl; have vf1 := V6.f 1 rfl; have vl := V6.lt)
     all_goals have C7 := ((C6.setO (p := ⟨w3.heap.size, 0, none⟩) (by exact g5) (.bool s7)).setO (p := ⟨w3.heap.size, 1, none⟩) (by exact g5) (.slice o7 n7 c7))
     all_goals have D7 := ((D6'.setO (p := ⟨w3.heap.size, 0, none⟩) (by exact g6) (.bool s7)).setO (p := ⟨w3.heap.size, 1, none⟩) (by exact g6) (.slice o7 n7 c7))
     all_goals have U7 := ((U6.setO (p := ⟨w3.heap.size, 0, none⟩) (by exact g7) (.bool s7)).setO (p := ⟨w3.heap.size, 1, none⟩) (by exact g7) (.slice o7 n7 c7))
     all_goals have M7 := num_put M6 V6 (.bool s7) (.slice o7 n7 c7)
     all_goals have P7 := num_put N7 V6 (.bool s7) (.slice o7 n7 c7)
     all_goals have L7 := (L6.setCell (p := ⟨w3.heap.size, 0, none⟩) (by simp; omega) (.bool s7)).setCell (p := ⟨w3.heap.size, 1, none⟩) (by simp; omega) (.slice o7 n7 c7)
     all_goals obtain ⟨E1, E2⟩ := D6 hx0 hRp hyp
     all_goals rw [show (if True then Q else -Q) + 1 = x / y by rw [E1]; simp] at M7
     all_goals rw [show -R - y = x % y by rw [E2]] at P7
     all_goals have F := div_done (k := k) L7 M7 (num_more P7 (Nat.le_succ _)) C7 D7
     all_goals (have c0 := C7.c 0 rfl; have cf0 := C7.f 0 rfl; have c1 := C7.c 1 rfl; have cf1 := C7.f 1 rfl; have cl := C7.lt; have d0 := D7.c 0 rfl; have df0 := D7.f 0 rfl; have d1 := D7.c 1 rfl; have df1 := D7.f 1 rfl; have dl := D7.lt; have u0 := U7.c 0 rfl; have u1 := U7.c 1 rfl; have ul := U7.lt)
     all_goals clear C6 D6' V6 U6 M6 L6 C7 D7 U7 M7 P7 L7 N7 g1 g2 g3 g4 g5 g6 g7
     all_goals go_wp2
     all_goals go_region
     all_goals go_wp2
     all_goals refine bodyPost_ret (v := .tuple #[.agg #[.bool s6, .slice o6 n6 c6], .agg #[.bool s7, .slice o7 n7 c7]]) (by simp [results, Tryz.results145, go_sem, c0, c1, d0, d1]) rfl ?_
     all_goals exact div_drawn F
 · have hv := Bool.eq_false_iff.2 hv
   subst hv
   have hres : (if s = t then Q else -Q) = x / y ∧ (if s then -R else R) = x % y := by
     have hs := hs.out
     have ht := ht.out
     obtain ⟨D1, D2, D3, D4, -, -⟩ := DS
     by_cases hx0 : x < 0
     · have es : s = true := by rw [hs]; simp [hx0]
       have hR : R = 0 := by rw [es] at hneg; simp at hneg; omega
       by_cases hy1 : y < 0
       · have et : t = true := by rw [ht]; simp [hy1]
         obtain ⟨e1, e2⟩ := D4 hx0 hR hy1
         rw [e1, e2, es, et, hR]; simp
       · have et : t = false := by rw [ht]; simp [hy1]
         obtain ⟨e1, e2⟩ := D3 hx0 hR (by omega)
         rw [e1, e2, es, et, hR]; simp
     · have es : s = false := by rw [hs]; simp [hx0]
       by_cases hy1 : y < 0
       · have et : t = true := by rw [ht]; simp [hy1]
         obtain ⟨e1, e2⟩ := D2 (by omega) hy1
         rw [e1, e2, es, et]; simp
       · have et : t = false := by rw [ht]; simp [hy1]
         obtain ⟨e1, e2⟩ := D1 (by omega) (by omega)
         rw [e1, e2, es, et]; simp
   rw [hres.1] at NU3
   rw [hres.2] at NV3
   have F := div_alloc (div_done HB3' (num_more NU3 (Nat.add_le_add_left (by decide) k)) (num_more NV3 (Nat.add_le_add_left (by decide) k)) C3 D3) (.cells #[.bool false, .slice o3 n3 c3] 88)
   clear hres hneg DS NU NV NU3 NV3 C3 D3 HB3' A B C D U V HB4
   go_wp2
   go_region
   all_goals go_wp2
   all_goals refine bodyPost_ret (v := .tuple #[.agg #[.bool s2, .slice o2 n2 c2], .agg #[.bool false, .slice o3 n3 c3]]) (by simp [results, Tryz.results145, go_sem, World.cell?_alloc_past, c0, c1, d0, d1, cl, dl]) rfl ?_
   all_goals exact div_drawn F
set_option maxRecDepth 100000 in
set_option maxHeartbeats 2000000 in
theorem eqW4 (a3 a2 a1 a0 b3 b2 b1 b0 : Int) (w : World) : (Op.equalIn 9999 42 (.agg #[.int .u64 a3, .int .u64 a2, .int .u64 a1, .int .u64 a0]) (.agg #[.int .u64 b3, .int .u64 b2, .int .u64 b1, .int .u64 b0])).run Tryz.prog w = .ok (a3 == b3 && a2 == b2 && a1 == b1 && a0 == b0) w := by
 have u3 := Tryz.underlying40
 have a3' := Tryz.isAgg40
 have z3 := Tryz.sizeOf40
 rw [show (9999 : Nat) = 9998 + 1 from rfl, Op.equalIn]
 simp only [Sem.run_bind, run_underlying Tryz.underlying42, Result.andThen_ok]
 go_simp
 by_cases h3 : a3 = b3
 · subst h3
   by_cases h2 : a2 = b2
   · subst h2
     by_cases h1 : a1 = b1
     · subst h1
       by_cases h0 : a0 = b0
       · subst h0
         simp
       · simp [h0]
     · simp [h1]
   · simp [h2]
 · simp [h3]
theorem eqWW (x u : Int) (hx : told x = true) (hu : told u = true) (w : World) : (Op.equalIn 9999 42 (W4 x) (W4 u)).run Tryz.prog w = .ok (decide (x = u)) w := by
 rw [eqW4]
 congr 1
 rw [Bool.eq_iff_iff]
 simp only [Bool.and_eq_true, beq_iff_eq, decide_eq_true_eq]
 constructor
 · rintro ⟨⟨⟨e3, e2⟩, e1⟩, e0⟩
   rw [← ww_sw hx, ← ww_sw hu, e3, e2, e1, e0]
 · rintro rfl
   exact ⟨⟨⟨rfl, rfl⟩, rfl⟩, rfl⟩
set_option maxRecDepth 100000 in
set_option maxHeartbeats 2000000 in
theorem eqPV (x y z u v t : Int) (hx : told x = true) (hy : told y = true) (hz : told z = true) (hu : told u = true) (hv : told v = true) (ht : told t = true) (w : World) : (Op.equalIn 10000 44 (PV x y z) (PV u v t)).run Tryz.prog w = .ok (decide (x = u) && decide (y = v) && decide (z = t)) w := by
 have E1 := eqWW x u hx hu
 have E2 := eqWW y v hy hv
 have E3 := eqWW z t hz ht
 have u3 := Tryz.underlying42
 have a3 := Tryz.isAgg42
 have z3 := Tryz.sizeOf42
 rw [show (10000 : Nat) = 9999 + 1 from rfl, Op.equalIn]
 simp only [Sem.run_bind, run_underlying Tryz.underlying44, Result.andThen_ok]
 go_simp
 by_cases h1 : x = u
 · by_cases h2 : y = v
   · by_cases h3 : z = t
     · simp [h1, h2, h3]
     · simp [h1, h2, h3]
   · simp [h1, h2]
 · simp [h1]
theorem IsNum.step {w w' : World} {s : Bool} {ao : Option Addr} {n cap : Nat} {ds : List Int} {z : Int} {k : Nat} (h : IsNum w s ao n cap ds z k) (hb : Below w.heap.size w w') : IsNum w' s ao n cap ds z k := h.below hb
theorem IsNum.alloc {w : World} {s : Bool} {ao : Option Addr} {n cap : Nat} {ds : List Int} {z : Int} {k : Nat} (h : IsNum w s ao n cap ds z k) (o : Obj) : IsNum (w.alloc o) s ao n cap ds z k := h.below ((Below.refl _ _).alloc (Nat.le_refl _) o)
theorem Blk.set2 {W : World} {vs : List Value} {v0 v1 : Value} {g g' : Nat} (G : Blk W g' vs) (hg : g' ≠ g) : Blk ((W.setCell ⟨g, 0, none⟩ v0).setCell ⟨g, 1, none⟩ v1) g' vs := (G.setO (by exact hg) _).setO (by exact hg) _
theorem Blk.stored2 {W : World} {g : Nat} {z0 z1 : Value} (G : Blk W g [z0, z1]) (v0 v1 : Value) : Blk ((W.setCell ⟨g, 0, none⟩ v0).setCell ⟨g, 1, none⟩ v1) g [v0, v1] := (G.setI 0 (by simp) v0).setI 1 (by simp) v1
theorem IsNum.set2 {w : World} {s : Bool} {ao : Option Addr} {n cap : Nat} {ds : List Int} {z : Int} {k g : Nat} (h : IsNum w s ao n cap ds z k) {b0 : Bool} {o0 : Option Addr} {n0 c0 : Nat} (G : Blk w g [.bool b0, .slice o0 n0 c0]) (v0 v1 : Value) : IsNum ((w.setCell ⟨g, 0, none⟩ v0).setCell ⟨g, 1, none⟩ v1) s ao n cap ds z k := by
 have h1 := h.setp v0 (G.c 0 rfl) (by intro x e; cases e)
 exact h1.setp v1 ((G.setI 0 (by simp) v0).c 1 rfl) (by intro x e; cases e)
theorem ArgsB.set2g {w W : World} {vss : List (List Value)} (h : ArgsB w W vss) {g : Nat} (hg : w.heap.size + vss.length ≤ g) (v0 v1 : Value) : ArgsB w ((W.setCell ⟨g, 0, none⟩ v0).setCell ⟨g, 1, none⟩ v1) vss := (h.set (by exact hg) _).set (by exact hg) _
def CutN (w wx : World) (vss : List (List Value)) (z : Int) (k B : Nat) (p : Value) : Prop :=
 ∃ g s o n c d, p = .pointer (some ⟨g, 0, none⟩) ∧ B ≤ g ∧ Blk wx g [.bool s, .slice o n c] ∧ IsNum wx s o n c d z k ∧ ArgsB w wx vss
theorem cutN_new {w X : World} {vss : List (List Value)} {s : Bool} {o : Option Addr} {n c : Nat} {d : List Int} {z : Int} {k B : Nat} {T : TypeId} (h : ArgsB w X vss) (N : IsNum X s o n c d z k) (hl : B ≤ X.heap.size) : CutN w (X.alloc (.cells #[.bool s, .slice o n c] T)) vss z k B (.pointer (some ⟨X.heap.size, 0, none⟩)) :=
 ⟨_, s, o, n, c, d, rfl, hl, Blk.new X [.bool s, .slice o n c] T rfl, N.alloc _, h.alloc _⟩
theorem cutN_set {w X : World} {vss : List (List Value)} {s : Bool} {o : Option Addr} {n c : Nat} {d : List Int} {z : Int} {k B g : Nat} (h : ArgsB w X vss) (N : IsNum X s o n c d z k) (G : Blk X g [.bool false, .slice none 0 0]) (hl : B ≤ g) (hg : w.heap.size + vss.length ≤ g) : CutN w ((X.setCell ⟨g, 0, none⟩ (.bool s)).setCell ⟨g, 1, none⟩ (.slice o n c)) vss z k B (.pointer (some ⟨g, 0, none⟩)) :=
 ⟨g, s, o, n, c, d, rfl, hl, (G.setI 0 (by simp) (.bool s)).setI 1 (by simp) (.slice o n c), N.set2 G _ _, h.set2g hg _ _⟩
theorem l3Spot_det (a b : Int) (ha : -1000000 ≤ a ∧ a ≤ 1000000) (hb : -1000000 ≤ b ∧ b ≤ 1000000) (w : World) : Calls Tryz.prog 90 #[Sp a b] w (L3P 8 a b 1 w) := by
 refine (l3Spot_any a b (by omega) (by omega) (by omega) (by omega) w).mono ?_
 rintro e w' ⟨s1, o1, n1, c1, d1, s2, o2, n2, c2, d2, s3, o3, n3, c3, d3, rfl, N1, N2, N3, hB⟩
 exact ⟨s1, o1, n1, c1, d1, s2, o2, n2, c2, d2, s3, o3, n3, c3, d3, rfl, num_more N1 (by omega), num_more N2 (by omega), num_more N3 (by omega), hB⟩
theorem mk_cells {s : Bool} {o : Option Addr} {n c : Nat} {W : World} {g : Nat} (G : Blk W g [.bool s, .slice o n c]) : (fun w' => w'.cell? ⟨g, 0, none⟩ = some (.bool s) ∧ w'.cell? ⟨g, 1, none⟩ = some (.slice o n c)) W := ⟨G.c 0 rfl, G.c 1 rfl⟩
end Go.Proofs.YteakhlipmmfilaaGreat
