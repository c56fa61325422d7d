/- Part 5 of the walks that the proof leans on. -/
import Derived.Test.YtmjlgmoohpnhfaaPart4
import Derived.Deep.RegionHeld3
import Derived.Deep.RegionWith
import Derived.Test.YtmjlgmoohpnhfaaPart3
import Derived.Test.YtmjlgmoohpnhfaaPart2
/- Spots and segments beside points: the walks of their rightness, by the model and by the program. -/
namespace Go.Proofs.Ytmjlgmoohpnhfaa
open Go.RowKit
abbrev Sp (x y : Int) : Value := .agg #[.int .i64 x, .int .i64 y]
def spotOk (x y : Int) : Bool := decide (-1000000 ≤ x ∧ x ≤ 1000000 ∧ -1000000 ≤ y ∧ y ≤ 1000000)
theorem l1In_any (x a b : Int) (c : Bool) (hc : decide (a ≤ x ∧ x ≤ b) = c) (w : World) : Calls Try.prog 51 #[.int .i64 x, .int .i64 a, .int .i64 b] w (BoolP c w) := by
  go_enter Try.func51, Try.ntmps51
  go_wp2
  all_goals go_ret
  all_goals exact ⟨ret_bool (by subst hc; simp; try omega), Below.refl _ _⟩
theorem implSpotOk_any (x y : Int) (c : Bool) (hc : spotOk x y = c) (w : World) : Calls Try.prog 64 #[Sp x y] w (BoolP c w) := by
  go_enter Try.func64, Try.ntmps64
  go_wp2
  all_goals go_ret
  all_goals exact ⟨ret_bool (by subst hc; unfold spotOk; simp [*]; try omega), (Below.refl _ _).alloc (Nat.le_refl _) _⟩
theorem specSpotOk_any (x y : Int) (c : Bool) (hc : spotOk x y = c) (w : World) : Calls Try.prog 58 #[Sp x y] w (BoolP c w) := by
  by_cases hx : -1000000 ≤ x ∧ x ≤ 1000000
  · go_enter Try.func58, Try.ntmps58
    go_wp2_with fail
    refine (l1In_any _ _ _ true (by simpa using hx) _).mono ?_
    rintro e w1 ⟨rfl, hB⟩
    obtain ⟨hq, _⟩ := bcell hB
    have HB : Below w.heap.size w w1 := ((Below.refl _ _).alloc (Nat.le_refl _) _).trans (hB.mono (by simp))
    clear hB
    go_wp2_with fail
    refine (l1In_any _ _ _ c (by subst hc; unfold spotOk; simp [hx]) _).mono ?_
    rintro e w2 ⟨rfl, hB⟩
    go_wp2
    go_ret
    exact ⟨rfl, HB.trans (hB.mono HB.size)⟩
  · go_enter Try.func58, Try.ntmps58
    go_wp2_with fail
    refine (l1In_any _ _ _ false (by simpa using hx) _).mono ?_
    rintro e w1 ⟨rfl, hB⟩
    have HB : Below w.heap.size w w1 := ((Below.refl _ _).alloc (Nat.le_refl _) _).trans (hB.mono (by simp))
    clear hB
    go_wp2
    go_ret
    exact ⟨ret_bool (by subst hc; unfold spotOk; simp; omega), HB⟩
def lessI (x y u v : Int) : Bool := decide (x < u ∨ x = u ∧ y < v)
theorem l4Less_any (x y u v : Int) (c : Bool) (hc : lessI x y u v = c) (w : World) : Calls Try.prog 37 #[Sp x y, Sp u v] w (BoolP c w) := by
  go_enter Try.func37, Try.ntmps37
  go_wp2
  all_goals go_ret
  all_goals exact ⟨ret_bool (by subst hc; unfold lessI; simp [*]; try omega), ((Below.refl _ _).alloc (Nat.le_refl _) _).alloc (by simp) _⟩
theorem isAhead_any (x y u v : Int) (c : Bool) (hc : lessI x y u v = c) (w : World) : Calls Try.prog 41 #[Sp x y, Sp u v] w (BoolP c w) := by
  go_enter Try.func41, Try.ntmps41
  go_wp2
  all_goals go_ret
  all_goals exact ⟨ret_bool (by subst hc; unfold lessI; simp [*]; try omega), ((Below.refl _ _).alloc (Nat.le_refl _) _).alloc (by simp) _⟩
abbrev Sg (a b c d : Int) : Value := .agg #[.int .i64 a, .int .i64 b, .int .i64 c, .int .i64 d]
def SegP (a b c d : Int) (w : World) (e : Ending) (w' : World) : Prop := e = .returned (Sg a b c d) ∧ Below w.heap.size w w'

/-- Four cells of a block, to be written. -/
structure Quad (W : World) (g : Nat) (v0 v1 v2 v3 : Value) : Prop where
  c0 : W.cell? ⟨g, 0, none⟩ = some v0
  c1 : W.cell? ⟨g, 1, none⟩ = some v1
  c2 : W.cell? ⟨g, 2, none⟩ = some v2
  c3 : W.cell? ⟨g, 3, none⟩ = some v3
  f0 : W.frozen? ⟨g, 0, none⟩ = false
  f1 : W.frozen? ⟨g, 1, none⟩ = false
  f2 : W.frozen? ⟨g, 2, none⟩ = false
  f3 : W.frozen? ⟨g, 3, none⟩ = false
  lt : g < W.heap.size
theorem Quad.below {W W' : World} {B g : Nat} {v0 v1 v2 v3 : Value} (h : Quad W g v0 v1 v2 v3) (hB : Below B W W') (hg : g < B) : Quad W' g v0 v1 v2 v3 :=
  ⟨(hB.cell (p := ⟨g, 0, none⟩) hg).trans h.c0, (hB.cell (p := ⟨g, 1, none⟩) hg).trans h.c1, (hB.cell (p := ⟨g, 2, none⟩) hg).trans h.c2, (hB.cell (p := ⟨g, 3, none⟩) hg).trans h.c3,
   (hB.frozen (p := ⟨g, 0, none⟩) hg).trans h.f0, (hB.frozen (p := ⟨g, 1, none⟩) hg).trans h.f1, (hB.frozen (p := ⟨g, 2, none⟩) hg).trans h.f2, (hB.frozen (p := ⟨g, 3, none⟩) hg).trans h.f3, Nat.lt_of_lt_of_le h.lt hB.size⟩
theorem Quad.alloc {W : World} {g : Nat} {v0 v1 v2 v3 : Value} (h : Quad W g v0 v1 v2 v3) (o : Obj) : Quad (W.alloc o) g v0 v1 v2 v3 := h.below ((Below.refl W.heap.size W).alloc (Nat.le_refl _) o) h.lt
theorem Quad.new (W : World) (v0 v1 v2 v3 : Value) (t : TypeId) {g : Nat} (hg : g = W.heap.size) : Quad (W.alloc (.cells #[v0, v1, v2, v3] t)) g v0 v1 v2 v3 := by
  subst hg
  constructor <;> simp [go_sem]
set_option maxRecDepth 100000 in
set_option maxHeartbeats 400000 in
theorem toSeg_any (a b c d : Int) (w : World) : Calls Try.prog 62 #[Sg a b c d] w (SegP a b c d w) := by
  go_enter Try.func62, Try.ntmps62
  go_wp2_with fail
  refine (toSpot_any _ _ _).mono ?_
  rintro e w1 ⟨rfl, hB⟩
  have hz := hB.size
  have HB : Below w.heap.size w w1 := ((((Below.refl _ _).alloc (Nat.le_refl _) _).alloc (by simp) _).alloc (by simp; omega) _).trans (hB.mono (by simp; omega))
  have q0 : Quad w1 w.heap.size _ _ _ _ := (((Quad.new w (.int .i64 a) (.int .i64 b) (.int .i64 c) (.int .i64 d) _ rfl).alloc _).alloc _).below hB (by simp; omega)
  have q1 : Quad w1 (w.heap.size + 1) _ _ _ _ := ((Quad.new (w.alloc _) (.int .i64 0) (.int .i64 0) (.int .i64 0) (.int .i64 0) _ (by simp)).alloc _).below hB (by simp)
  have q2 : Quad w1 (w.heap.size + 1 + 1) _ _ _ _ := (Quad.new ((w.alloc _).alloc _) (.int .i64 0) (.int .i64 0) (.int .i64 0) (.int .i64 0) _ (by simp)).below hB (by simp)
  clear hB
  simp at hz
  obtain ⟨q00, q01, q02, q03, -, -, -, -, q08⟩ := id q0
  obtain ⟨q20, q21, q22, q23, q24, q25, q26, q27, q28⟩ := id q2
  go_wp2_with fail
  refine (toSpot_any _ _ _).mono ?_
  rintro e w2 ⟨rfl, hB⟩
  have HB2 : Below w.heap.size w w2 := ((HB.setCell (p := ⟨w.heap.size + 2, 0, none⟩) (by simp) _).setCell (p := ⟨w.heap.size + 2, 1, none⟩) (by simp) _).trans (hB.mono (by have := HB.size; simpa [World.setCell] using this))
  have r2 : Quad w2 (w.heap.size + 1 + 1) (.int .i64 a) (.int .i64 b) (.int .i64 0) (.int .i64 0) := Quad.below (by constructor <;> simp [go_sem, q20, q21, q22, q23, q24, q25, q26, q27]; try exact q28) hB (by simpa [World.setCell] using q28)
  have r1 : Quad w2 (w.heap.size + 1) (.int .i64 0) (.int .i64 0) (.int .i64 0) (.int .i64 0) := Quad.below (by constructor <;> simp [go_sem, q1.c0, q1.c1, q1.c2, q1.c3, q1.f0, q1.f1, q1.f2, q1.f3]; try exact q1.lt) hB (by simpa [World.setCell] using q1.lt)
  clear hB HB q0 q1 q2 q00 q01 q02 q03 q08 q20 q21 q22 q23 q24 q25 q26 q27 q28
  obtain ⟨q10, q11, q12, q13, q14, q15, q16, q17, q18⟩ := id r1
  obtain ⟨q20, q21, q22, q23, q24, q25, q26, q27, q28⟩ := id r2
  go_wp2
  refine bodyPost_ret (v := Sg a b c d) (by simp [results, Try.results62, go_sem, q10, q11, q12, q13]) rfl ?_
  refine ⟨rfl, ?_⟩
  repeat' (first | (refine Below.setCell ?_ (by simp; try omega) _))
  exact HB2
def segOk (a b c d : Int) : Bool := spotOk a b && spotOk c d && lessI a b c d
set_option maxRecDepth 100000 in
theorem specSegOk_any (a b c d : Int) (z : Bool) (hz : segOk a b c d = z) (w : World) : Calls Try.prog 116 #[Sg a b c d] w (BoolP z w) := by
  have HB0 : Below w.heap.size w (w.alloc (.cells #[.int .i64 a, .int .i64 b, .int .i64 c, .int .i64 d] 103)) := (Below.refl _ _).alloc (Nat.le_refl _) _
  by_cases hx : spotOk a b = true
  · by_cases hy : spotOk c d = true
    · go_enter Try.func116, Try.ntmps116
      go_wp2_with fail
      refine (specSpotOk_any _ _ true hx _).mono ?_
      rintro e w1 ⟨rfl, hB⟩
      have HB : Below w.heap.size w w1 := HB0.trans (hB.mono (by simp))
      have q0 : Quad w1 w.heap.size _ _ _ _ := (Quad.new w (.int .i64 a) (.int .i64 b) (.int .i64 c) (.int .i64 d) _ rfl).below hB (by simp)
      obtain ⟨q00, q01, q02, q03, -, -, -, -, q08⟩ := id q0
      clear hB
      go_wp2_with fail
      refine (specSpotOk_any _ _ true hy _).mono ?_
      rintro e w2 ⟨rfl, hB⟩
      have HB2 : Below w.heap.size w w2 := HB.trans (hB.mono HB.size)
      have q2 := q0.below hB q0.lt
      clear q00 q01 q02 q03 q08
      obtain ⟨q00, q01, q02, q03, -, -, -, -, q08⟩ := q2
      clear hB HB
      go_wp2_with fail
      refine (l4Less_any _ _ _ _ z (by rw [← hz]; simp [segOk, hx, hy]) _).mono ?_
      rintro e w3 ⟨rfl, hB⟩
      go_wp2
      go_ret
      exact ⟨rfl, HB2.trans (hB.mono HB2.size)⟩
    · have hy := Bool.eq_false_iff.2 hy
      go_enter Try.func116, Try.ntmps116
      go_wp2_with fail
      refine (specSpotOk_any _ _ true hx _).mono ?_
      rintro e w1 ⟨rfl, hB⟩
      have HB : Below w.heap.size w w1 := HB0.trans (hB.mono (by simp))
      have q0 : Quad w1 w.heap.size _ _ _ _ := (Quad.new w (.int .i64 a) (.int .i64 b) (.int .i64 c) (.int .i64 d) _ rfl).below hB (by simp)
      obtain ⟨q00, q01, q02, q03, -, -, -, -, q08⟩ := id q0
      clear hB
      go_wp2_with fail
      refine (specSpotOk_any _ _ false hy _).mono ?_
      rintro e w2 ⟨rfl, hB⟩
      have HB2 : Below w.heap.size w w2 := HB.trans (hB.mono HB.size)
      clear hB HB
      go_wp2
      go_ret
      exact ⟨ret_bool (by rw [← hz]; simp [segOk, hx, hy]), HB2⟩
  · have hx := Bool.eq_false_iff.2 hx
    go_enter Try.func116, Try.ntmps116
    go_wp2_with fail
    refine (specSpotOk_any _ _ false hx _).mono ?_
    rintro e w1 ⟨rfl, hB⟩
    have HB : Below w.heap.size w w1 := HB0.trans (hB.mono (by simp))
    clear hB
    go_wp2
    go_ret
    exact ⟨ret_bool (by rw [← hz]; simp [segOk, hx]), HB⟩
set_option maxRecDepth 100000 in
theorem implSegOk_any (a b c d : Int) (z : Bool) (hz : segOk a b c d = z) (w : World) : Calls Try.prog 111 #[Sg a b c d] w (BoolP z w) := by
  have HB0 : Below w.heap.size w (w.alloc (.cells #[.int .i64 a, .int .i64 b, .int .i64 c, .int .i64 d] 103)) := (Below.refl _ _).alloc (Nat.le_refl _) _
  by_cases hx : spotOk a b = true
  · by_cases hy : spotOk c d = true
    · go_enter Try.func111, Try.ntmps111
      go_wp2_with fail
      refine (implSpotOk_any _ _ true hx _).mono ?_
      rintro e w1 ⟨rfl, hB⟩
      have HB : Below w.heap.size w w1 := HB0.trans (hB.mono (by simp))
      have q0 : Quad w1 w.heap.size _ _ _ _ := (Quad.new w (.int .i64 a) (.int .i64 b) (.int .i64 c) (.int .i64 d) _ rfl).below hB (by simp)
      obtain ⟨q00, q01, q02, q03, -, -, -, -, q08⟩ := id q0
      clear hB
      go_wp2_with fail
      refine (implSpotOk_any _ _ true hy _).mono ?_
      rintro e w2 ⟨rfl, hB⟩
      have HB2 : Below w.heap.size w w2 := HB.trans (hB.mono HB.size)
      have q2 := q0.below hB q0.lt
      clear q00 q01 q02 q03 q08
      obtain ⟨q00, q01, q02, q03, -, -, -, -, q08⟩ := q2
      clear hB HB
      go_wp2_with fail
      refine (isAhead_any _ _ _ _ z (by rw [← hz]; simp [segOk, hx, hy]) _).mono ?_
      rintro e w3 ⟨rfl, hB⟩
      go_wp2
      go_ret
      exact ⟨rfl, HB2.trans (hB.mono HB2.size)⟩
    · have hy := Bool.eq_false_iff.2 hy
      go_enter Try.func111, Try.ntmps111
      go_wp2_with fail
      refine (implSpotOk_any _ _ true hx _).mono ?_
      rintro e w1 ⟨rfl, hB⟩
      have HB : Below w.heap.size w w1 := HB0.trans (hB.mono (by simp))
      have q0 : Quad w1 w.heap.size _ _ _ _ := (Quad.new w (.int .i64 a) (.int .i64 b) (.int .i64 c) (.int .i64 d) _ rfl).below hB (by simp)
      obtain ⟨q00, q01, q02, q03, -, -, -, -, q08⟩ := id q0
      clear hB
      go_wp2_with fail
      refine (implSpotOk_any _ _ false hy _).mono ?_
      rintro e w2 ⟨rfl, hB⟩
      have HB2 : Below w.heap.size w w2 := HB.trans (hB.mono HB.size)
      clear hB HB
      go_wp2
      go_ret
      exact ⟨ret_bool (by rw [← hz]; simp [segOk, hx, hy]), HB2⟩
  · have hx := Bool.eq_false_iff.2 hx
    go_enter Try.func111, Try.ntmps111
    go_wp2_with fail
    refine (implSpotOk_any _ _ false hx _).mono ?_
    rintro e w1 ⟨rfl, hB⟩
    have HB : Below w.heap.size w w1 := HB0.trans (hB.mono (by simp))
    clear hB
    go_wp2
    go_ret
    exact ⟨ret_bool (by rw [← hz]; simp [segOk, hx]), HB⟩
end Go.Proofs.Ytmjlgmoohpnhfaa

/- The ends of a segment as points: the program's walk. -/
namespace Go.Proofs.Ytmjlgmoohpnhfaa
open Go.RowKit
theorem Blk.set12 {W : World} {vs : List Value} {v0 v1 v2 v3 v4 v5 v6 v7 v8 v9 v10 v11 : Value} {g g' : Nat} (G : Blk W g' vs) (hg : g' ≠ g) : Blk ((((((((((((W.setCell ⟨g, 0, none⟩ v0).setCell ⟨g, 1, none⟩ v1).setCell ⟨g, 2, none⟩ v2).setCell ⟨g, 3, none⟩ v3).setCell ⟨g, 4, none⟩ v4).setCell ⟨g, 5, none⟩ v5).setCell ⟨g, 6, none⟩ v6).setCell ⟨g, 7, none⟩ v7).setCell ⟨g, 8, none⟩ v8).setCell ⟨g, 9, none⟩ v9).setCell ⟨g, 10, none⟩ v10).setCell ⟨g, 11, none⟩ v11) g' vs :=
  (((((((((((G.setO hg v0).setO hg v1).setO hg v2).setO hg v3).setO hg v4).setO hg v5).setO hg v6).setO hg v7).setO hg v8).setO hg v9).setO hg v10).setO hg v11
theorem Blk.stored12 {W : World} {g : Nat} {z0 z1 z2 z3 z4 z5 z6 z7 z8 z9 z10 z11 : Value} (G : Blk W g [z0, z1, z2, z3, z4, z5, z6, z7, z8, z9, z10, z11]) (v0 v1 v2 v3 v4 v5 v6 v7 v8 v9 v10 v11 : Value) : Blk ((((((((((((W.setCell ⟨g, 0, none⟩ v0).setCell ⟨g, 1, none⟩ v1).setCell ⟨g, 2, none⟩ v2).setCell ⟨g, 3, none⟩ v3).setCell ⟨g, 4, none⟩ v4).setCell ⟨g, 5, none⟩ v5).setCell ⟨g, 6, none⟩ v6).setCell ⟨g, 7, none⟩ v7).setCell ⟨g, 8, none⟩ v8).setCell ⟨g, 9, none⟩ v9).setCell ⟨g, 10, none⟩ v10).setCell ⟨g, 11, none⟩ v11) g [v0, v1, v2, v3, v4, v5, v6, v7, v8, v9, v10, v11] :=
  (((((((((((G.setI 0 (by simp) v0).setI 1 (by simp) v1).setI 2 (by simp) v2).setI 3 (by simp) v3).setI 4 (by simp) v4).setI 5 (by simp) v5).setI 6 (by simp) v6).setI 7 (by simp) v7).setI 8 (by simp) v8).setI 9 (by simp) v9).setI 10 (by simp) v10).setI 11 (by simp) v11
theorem Below.set12 {B g : Nat} {w W : World} {v0 v1 v2 v3 v4 v5 v6 v7 v8 v9 v10 v11 : Value} (hg : B ≤ g) (h : Below B w W) : Below B w ((((((((((((W.setCell ⟨g, 0, none⟩ v0).setCell ⟨g, 1, none⟩ v1).setCell ⟨g, 2, none⟩ v2).setCell ⟨g, 3, none⟩ v3).setCell ⟨g, 4, none⟩ v4).setCell ⟨g, 5, none⟩ v5).setCell ⟨g, 6, none⟩ v6).setCell ⟨g, 7, none⟩ v7).setCell ⟨g, 8, none⟩ v8).setCell ⟨g, 9, none⟩ v9).setCell ⟨g, 10, none⟩ v10).setCell ⟨g, 11, none⟩ v11) :=
  (((((((((((h.setCell (p := ⟨g, 0, none⟩) hg _).setCell (p := ⟨g, 1, none⟩) hg _).setCell (p := ⟨g, 2, none⟩) hg _).setCell (p := ⟨g, 3, none⟩) hg _).setCell (p := ⟨g, 4, none⟩) hg _).setCell (p := ⟨g, 5, none⟩) hg _).setCell (p := ⟨g, 6, none⟩) hg _).setCell (p := ⟨g, 7, none⟩) hg _).setCell (p := ⟨g, 8, none⟩) hg _).setCell (p := ⟨g, 9, none⟩) hg _).setCell (p := ⟨g, 10, none⟩) hg _).setCell (p := ⟨g, 11, none⟩) hg _
theorem en_cells {a b c d : Int} {w W : World} (T0 : ArgsB w W [[.int .i64 a, .int .i64 b, .int .i64 c, .int .i64 d], [.int .u64 0, .int .u64 0, .int .u64 0, .int .u64 0, .int .u64 0, .int .u64 0, .int .u64 0, .int .u64 0, .int .u64 0, .int .u64 0, .int .u64 0, .int .u64 0], [.int .u64 0, .int .u64 0, .int .u64 0, .int .u64 0, .int .u64 0, .int .u64 0, .int .u64 0, .int .u64 0, .int .u64 0, .int .u64 0, .int .u64 0, .int .u64 0]]) : (fun w' => w'.cell? ⟨w.heap.size, 0, none⟩ = some (.int .i64 a) ∧ w'.cell? ⟨w.heap.size, 1, none⟩ = some (.int .i64 b) ∧ w'.cell? ⟨w.heap.size, 2, none⟩ = some (.int .i64 c) ∧ w'.cell? ⟨w.heap.size, 3, none⟩ = some (.int .i64 d)) W := ⟨(T0.b 0 rfl).c 0 rfl, (T0.b 0 rfl).c 1 rfl, (T0.b 0 rfl).c 2 rfl, (T0.b 0 rfl).c 3 rfl⟩
theorem en_cells1 {a b c d : Int} {w W : World} {v0 v1 v2 v3 v4 v5 v6 v7 v8 v9 v10 v11 : Value} (T0 : ArgsB w W [[.int .i64 a, .int .i64 b, .int .i64 c, .int .i64 d], [.int .u64 0, .int .u64 0, .int .u64 0, .int .u64 0, .int .u64 0, .int .u64 0, .int .u64 0, .int .u64 0, .int .u64 0, .int .u64 0, .int .u64 0, .int .u64 0], [.int .u64 0, .int .u64 0, .int .u64 0, .int .u64 0, .int .u64 0, .int .u64 0, .int .u64 0, .int .u64 0, .int .u64 0, .int .u64 0, .int .u64 0, .int .u64 0]]) : (fun w' => w'.cell? ⟨w.heap.size, 0, none⟩ = some (.int .i64 a) ∧ w'.cell? ⟨w.heap.size, 1, none⟩ = some (.int .i64 b) ∧ w'.cell? ⟨w.heap.size, 2, none⟩ = some (.int .i64 c) ∧ w'.cell? ⟨w.heap.size, 3, none⟩ = some (.int .i64 d)) ((((((((((((W.setCell ⟨(w.heap.size + 1), 0, none⟩ v0).setCell ⟨(w.heap.size + 1), 1, none⟩ v1).setCell ⟨(w.heap.size + 1), 2, none⟩ v2).setCell ⟨(w.heap.size + 1), 3, none⟩ v3).setCell ⟨(w.heap.size + 1), 4, none⟩ v4).setCell ⟨(w.heap.size + 1), 5, none⟩ v5).setCell ⟨(w.heap.size + 1), 6, none⟩ v6).setCell ⟨(w.heap.size + 1), 7, none⟩ v7).setCell ⟨(w.heap.size + 1), 8, none⟩ v8).setCell ⟨(w.heap.size + 1), 9, none⟩ v9).setCell ⟨(w.heap.size + 1), 10, none⟩ v10).setCell ⟨(w.heap.size + 1), 11, none⟩ v11) := by
  have h : Blk ((((((((((((W.setCell ⟨(w.heap.size + 1), 0, none⟩ v0).setCell ⟨(w.heap.size + 1), 1, none⟩ v1).setCell ⟨(w.heap.size + 1), 2, none⟩ v2).setCell ⟨(w.heap.size + 1), 3, none⟩ v3).setCell ⟨(w.heap.size + 1), 4, none⟩ v4).setCell ⟨(w.heap.size + 1), 5, none⟩ v5).setCell ⟨(w.heap.size + 1), 6, none⟩ v6).setCell ⟨(w.heap.size + 1), 7, none⟩ v7).setCell ⟨(w.heap.size + 1), 8, none⟩ v8).setCell ⟨(w.heap.size + 1), 9, none⟩ v9).setCell ⟨(w.heap.size + 1), 10, none⟩ v10).setCell ⟨(w.heap.size + 1), 11, none⟩ v11) (w.heap.size + 0) _ := (T0.b 0 rfl).set12 (by omega)
  exact ⟨h.c 0 rfl, h.c 1 rfl, h.c 2 rfl, h.c 3 rfl⟩
theorem en_cells2 {a b c d : Int} {w W : World} {v0 v1 v2 v3 v4 v5 v6 v7 v8 v9 v10 v11 : Value} (T0 : ArgsB w W [[.int .i64 a, .int .i64 b, .int .i64 c, .int .i64 d], [.int .u64 0, .int .u64 0, .int .u64 0, .int .u64 0, .int .u64 0, .int .u64 0, .int .u64 0, .int .u64 0, .int .u64 0, .int .u64 0, .int .u64 0, .int .u64 0], [.int .u64 0, .int .u64 0, .int .u64 0, .int .u64 0, .int .u64 0, .int .u64 0, .int .u64 0, .int .u64 0, .int .u64 0, .int .u64 0, .int .u64 0, .int .u64 0]]) : (fun w' => w'.cell? ⟨w.heap.size, 0, none⟩ = some (.int .i64 a) ∧ w'.cell? ⟨w.heap.size, 1, none⟩ = some (.int .i64 b) ∧ w'.cell? ⟨w.heap.size, 2, none⟩ = some (.int .i64 c) ∧ w'.cell? ⟨w.heap.size, 3, none⟩ = some (.int .i64 d)) ((((((((((((W.setCell ⟨(w.heap.size + 1 + 1), 0, none⟩ v0).setCell ⟨(w.heap.size + 1 + 1), 1, none⟩ v1).setCell ⟨(w.heap.size + 1 + 1), 2, none⟩ v2).setCell ⟨(w.heap.size + 1 + 1), 3, none⟩ v3).setCell ⟨(w.heap.size + 1 + 1), 4, none⟩ v4).setCell ⟨(w.heap.size + 1 + 1), 5, none⟩ v5).setCell ⟨(w.heap.size + 1 + 1), 6, none⟩ v6).setCell ⟨(w.heap.size + 1 + 1), 7, none⟩ v7).setCell ⟨(w.heap.size + 1 + 1), 8, none⟩ v8).setCell ⟨(w.heap.size + 1 + 1), 9, none⟩ v9).setCell ⟨(w.heap.size + 1 + 1), 10, none⟩ v10).setCell ⟨(w.heap.size + 1 + 1), 11, none⟩ v11) := by
  have h : Blk ((((((((((((W.setCell ⟨(w.heap.size + 1 + 1), 0, none⟩ v0).setCell ⟨(w.heap.size + 1 + 1), 1, none⟩ v1).setCell ⟨(w.heap.size + 1 + 1), 2, none⟩ v2).setCell ⟨(w.heap.size + 1 + 1), 3, none⟩ v3).setCell ⟨(w.heap.size + 1 + 1), 4, none⟩ v4).setCell ⟨(w.heap.size + 1 + 1), 5, none⟩ v5).setCell ⟨(w.heap.size + 1 + 1), 6, none⟩ v6).setCell ⟨(w.heap.size + 1 + 1), 7, none⟩ v7).setCell ⟨(w.heap.size + 1 + 1), 8, none⟩ v8).setCell ⟨(w.heap.size + 1 + 1), 9, none⟩ v9).setCell ⟨(w.heap.size + 1 + 1), 10, none⟩ v10).setCell ⟨(w.heap.size + 1 + 1), 11, none⟩ v11) (w.heap.size + 0) _ := (T0.b 0 rfl).set12 (by omega)
  exact ⟨h.c 0 rfl, h.c 1 rfl, h.c 2 rfl, h.c 3 rfl⟩
theorem en_cells12 {a b c d : Int} {w W : World} {u0 u1 u2 u3 u4 u5 u6 u7 u8 u9 u10 u11 v0 v1 v2 v3 v4 v5 v6 v7 v8 v9 v10 v11 : Value} (T0 : ArgsB w W [[.int .i64 a, .int .i64 b, .int .i64 c, .int .i64 d], [.int .u64 0, .int .u64 0, .int .u64 0, .int .u64 0, .int .u64 0, .int .u64 0, .int .u64 0, .int .u64 0, .int .u64 0, .int .u64 0, .int .u64 0, .int .u64 0], [.int .u64 0, .int .u64 0, .int .u64 0, .int .u64 0, .int .u64 0, .int .u64 0, .int .u64 0, .int .u64 0, .int .u64 0, .int .u64 0, .int .u64 0, .int .u64 0]]) : (fun w' => w'.cell? ⟨w.heap.size, 0, none⟩ = some (.int .i64 a) ∧ w'.cell? ⟨w.heap.size, 1, none⟩ = some (.int .i64 b) ∧ w'.cell? ⟨w.heap.size, 2, none⟩ = some (.int .i64 c) ∧ w'.cell? ⟨w.heap.size, 3, none⟩ = some (.int .i64 d)) ((((((((((((((((((((((((W.setCell ⟨(w.heap.size + 1), 0, none⟩ u0).setCell ⟨(w.heap.size + 1), 1, none⟩ u1).setCell ⟨(w.heap.size + 1), 2, none⟩ u2).setCell ⟨(w.heap.size + 1), 3, none⟩ u3).setCell ⟨(w.heap.size + 1), 4, none⟩ u4).setCell ⟨(w.heap.size + 1), 5, none⟩ u5).setCell ⟨(w.heap.size + 1), 6, none⟩ u6).setCell ⟨(w.heap.size + 1), 7, none⟩ u7).setCell ⟨(w.heap.size + 1), 8, none⟩ u8).setCell ⟨(w.heap.size + 1), 9, none⟩ u9).setCell ⟨(w.heap.size + 1), 10, none⟩ u10).setCell ⟨(w.heap.size + 1), 11, none⟩ u11).setCell ⟨(w.heap.size + 1 + 1), 0, none⟩ v0).setCell ⟨(w.heap.size + 1 + 1), 1, none⟩ v1).setCell ⟨(w.heap.size + 1 + 1), 2, none⟩ v2).setCell ⟨(w.heap.size + 1 + 1), 3, none⟩ v3).setCell ⟨(w.heap.size + 1 + 1), 4, none⟩ v4).setCell ⟨(w.heap.size + 1 + 1), 5, none⟩ v5).setCell ⟨(w.heap.size + 1 + 1), 6, none⟩ v6).setCell ⟨(w.heap.size + 1 + 1), 7, none⟩ v7).setCell ⟨(w.heap.size + 1 + 1), 8, none⟩ v8).setCell ⟨(w.heap.size + 1 + 1), 9, none⟩ v9).setCell ⟨(w.heap.size + 1 + 1), 10, none⟩ v10).setCell ⟨(w.heap.size + 1 + 1), 11, none⟩ v11) := by
  have h : Blk ((((((((((((((((((((((((W.setCell ⟨(w.heap.size + 1), 0, none⟩ u0).setCell ⟨(w.heap.size + 1), 1, none⟩ u1).setCell ⟨(w.heap.size + 1), 2, none⟩ u2).setCell ⟨(w.heap.size + 1), 3, none⟩ u3).setCell ⟨(w.heap.size + 1), 4, none⟩ u4).setCell ⟨(w.heap.size + 1), 5, none⟩ u5).setCell ⟨(w.heap.size + 1), 6, none⟩ u6).setCell ⟨(w.heap.size + 1), 7, none⟩ u7).setCell ⟨(w.heap.size + 1), 8, none⟩ u8).setCell ⟨(w.heap.size + 1), 9, none⟩ u9).setCell ⟨(w.heap.size + 1), 10, none⟩ u10).setCell ⟨(w.heap.size + 1), 11, none⟩ u11).setCell ⟨(w.heap.size + 1 + 1), 0, none⟩ v0).setCell ⟨(w.heap.size + 1 + 1), 1, none⟩ v1).setCell ⟨(w.heap.size + 1 + 1), 2, none⟩ v2).setCell ⟨(w.heap.size + 1 + 1), 3, none⟩ v3).setCell ⟨(w.heap.size + 1 + 1), 4, none⟩ v4).setCell ⟨(w.heap.size + 1 + 1), 5, none⟩ v5).setCell ⟨(w.heap.size + 1 + 1), 6, none⟩ v6).setCell ⟨(w.heap.size + 1 + 1), 7, none⟩ v7).setCell ⟨(w.heap.size + 1 + 1), 8, none⟩ v8).setCell ⟨(w.heap.size + 1 + 1), 9, none⟩ v9).setCell ⟨(w.heap.size + 1 + 1), 10, none⟩ v10).setCell ⟨(w.heap.size + 1 + 1), 11, none⟩ v11) (w.heap.size + 0) _ := ((T0.b 0 rfl).set12 (by omega)).set12 (by omega)
  exact ⟨h.c 0 rfl, h.c 1 rfl, h.c 2 rfl, h.c 3 rfl⟩
theorem en_cells21 {a b c d : Int} {w W : World} {u0 u1 u2 u3 u4 u5 u6 u7 u8 u9 u10 u11 v0 v1 v2 v3 v4 v5 v6 v7 v8 v9 v10 v11 : Value} (T0 : ArgsB w W [[.int .i64 a, .int .i64 b, .int .i64 c, .int .i64 d], [.int .u64 0, .int .u64 0, .int .u64 0, .int .u64 0, .int .u64 0, .int .u64 0, .int .u64 0, .int .u64 0, .int .u64 0, .int .u64 0, .int .u64 0, .int .u64 0], [.int .u64 0, .int .u64 0, .int .u64 0, .int .u64 0, .int .u64 0, .int .u64 0, .int .u64 0, .int .u64 0, .int .u64 0, .int .u64 0, .int .u64 0, .int .u64 0]]) : (fun w' => w'.cell? ⟨w.heap.size, 0, none⟩ = some (.int .i64 a) ∧ w'.cell? ⟨w.heap.size, 1, none⟩ = some (.int .i64 b) ∧ w'.cell? ⟨w.heap.size, 2, none⟩ = some (.int .i64 c) ∧ w'.cell? ⟨w.heap.size, 3, none⟩ = some (.int .i64 d)) ((((((((((((((((((((((((W.setCell ⟨(w.heap.size + 1 + 1), 0, none⟩ u0).setCell ⟨(w.heap.size + 1 + 1), 1, none⟩ u1).setCell ⟨(w.heap.size + 1 + 1), 2, none⟩ u2).setCell ⟨(w.heap.size + 1 + 1), 3, none⟩ u3).setCell ⟨(w.heap.size + 1 + 1), 4, none⟩ u4).setCell ⟨(w.heap.size + 1 + 1), 5, none⟩ u5).setCell ⟨(w.heap.size + 1 + 1), 6, none⟩ u6).setCell ⟨(w.heap.size + 1 + 1), 7, none⟩ u7).setCell ⟨(w.heap.size + 1 + 1), 8, none⟩ u8).setCell ⟨(w.heap.size + 1 + 1), 9, none⟩ u9).setCell ⟨(w.heap.size + 1 + 1), 10, none⟩ u10).setCell ⟨(w.heap.size + 1 + 1), 11, none⟩ u11).setCell ⟨(w.heap.size + 1), 0, none⟩ v0).setCell ⟨(w.heap.size + 1), 1, none⟩ v1).setCell ⟨(w.heap.size + 1), 2, none⟩ v2).setCell ⟨(w.heap.size + 1), 3, none⟩ v3).setCell ⟨(w.heap.size + 1), 4, none⟩ v4).setCell ⟨(w.heap.size + 1), 5, none⟩ v5).setCell ⟨(w.heap.size + 1), 6, none⟩ v6).setCell ⟨(w.heap.size + 1), 7, none⟩ v7).setCell ⟨(w.heap.size + 1), 8, none⟩ v8).setCell ⟨(w.heap.size + 1), 9, none⟩ v9).setCell ⟨(w.heap.size + 1), 10, none⟩ v10).setCell ⟨(w.heap.size + 1), 11, none⟩ v11) := by
  have h : Blk ((((((((((((((((((((((((W.setCell ⟨(w.heap.size + 1 + 1), 0, none⟩ u0).setCell ⟨(w.heap.size + 1 + 1), 1, none⟩ u1).setCell ⟨(w.heap.size + 1 + 1), 2, none⟩ u2).setCell ⟨(w.heap.size + 1 + 1), 3, none⟩ u3).setCell ⟨(w.heap.size + 1 + 1), 4, none⟩ u4).setCell ⟨(w.heap.size + 1 + 1), 5, none⟩ u5).setCell ⟨(w.heap.size + 1 + 1), 6, none⟩ u6).setCell ⟨(w.heap.size + 1 + 1), 7, none⟩ u7).setCell ⟨(w.heap.size + 1 + 1), 8, none⟩ u8).setCell ⟨(w.heap.size + 1 + 1), 9, none⟩ u9).setCell ⟨(w.heap.size + 1 + 1), 10, none⟩ u10).setCell ⟨(w.heap.size + 1 + 1), 11, none⟩ u11).setCell ⟨(w.heap.size + 1), 0, none⟩ v0).setCell ⟨(w.heap.size + 1), 1, none⟩ v1).setCell ⟨(w.heap.size + 1), 2, none⟩ v2).setCell ⟨(w.heap.size + 1), 3, none⟩ v3).setCell ⟨(w.heap.size + 1), 4, none⟩ v4).setCell ⟨(w.heap.size + 1), 5, none⟩ v5).setCell ⟨(w.heap.size + 1), 6, none⟩ v6).setCell ⟨(w.heap.size + 1), 7, none⟩ v7).setCell ⟨(w.heap.size + 1), 8, none⟩ v8).setCell ⟨(w.heap.size + 1), 9, none⟩ v9).setCell ⟨(w.heap.size + 1), 10, none⟩ v10).setCell ⟨(w.heap.size + 1), 11, none⟩ v11) (w.heap.size + 0) _ := ((T0.b 0 rfl).set12 (by omega)).set12 (by omega)
  exact ⟨h.c 0 rfl, h.c 1 rfl, h.c 2 rfl, h.c 3 rfl⟩
set_option maxRecDepth 100000 in
set_option maxHeartbeats 4000000 in
theorem ends_det (a b c d : Int) (ha0 : -9223372036854775808 ≤ a) (ha1 : a ≤ 9223372036854775807) (hb0 : -9223372036854775808 ≤ b) (hb1 : b ≤ 9223372036854775807) (hc0 : -9223372036854775808 ≤ c) (hc1 : c ≤ 9223372036854775807) (hd0 : -9223372036854775808 ≤ d) (hd1 : d ≤ 9223372036854775807) (w : World) : Calls Try.prog 160 #[Sg a b c d] w (VP (.tuple #[PV a b 1, PV c d 1]) w) := by
  have T0 : ArgsB w (((w.alloc (.cells #[.int .i64 a, .int .i64 b, .int .i64 c, .int .i64 d] 103)).alloc (.cells #[.int .u64 0, .int .u64 0, .int .u64 0, .int .u64 0, .int .u64 0, .int .u64 0, .int .u64 0, .int .u64 0, .int .u64 0, .int .u64 0, .int .u64 0, .int .u64 0] 83)).alloc (.cells #[.int .u64 0, .int .u64 0, .int .u64 0, .int .u64 0, .int .u64 0, .int .u64 0, .int .u64 0, .int .u64 0, .int .u64 0, .int .u64 0, .int .u64 0, .int .u64 0] 83)) [[.int .i64 a, .int .i64 b, .int .i64 c, .int .i64 d], [.int .u64 0, .int .u64 0, .int .u64 0, .int .u64 0, .int .u64 0, .int .u64 0, .int .u64 0, .int .u64 0, .int .u64 0, .int .u64 0, .int .u64 0, .int .u64 0], [.int .u64 0, .int .u64 0, .int .u64 0, .int .u64 0, .int .u64 0, .int .u64 0, .int .u64 0, .int .u64 0, .int .u64 0, .int .u64 0, .int .u64 0, .int .u64 0]] := ar3 _ _ _ _ _ _ w
  have C1 := fun w => implPointOf_any a b ha0 ha1 hb0 hb1 w
  have C2 := fun w => implPointOf_any c d hc0 hc1 hd0 hd1 w
  clear ha0 ha1 hb0 hb1 hc0 hc1 hd0 hd1
  have tok1 : True := trivial
  go_enter Try.func160, Try.ntmps160
  go_upto_region 1 with fail
  generalize (((w.alloc (.cells #[.int .i64 a, .int .i64 b, .int .i64 c, .int .i64 d] 103)).alloc (.cells #[.int .u64 0, .int .u64 0, .int .u64 0, .int .u64 0, .int .u64 0, .int .u64 0, .int .u64 0, .int .u64 0, .int .u64 0, .int .u64 0, .int .u64 0, .int .u64 0] 83)).alloc (.cells #[.int .u64 0, .int .u64 0, .int .u64 0, .int .u64 0, .int .u64 0, .int .u64 0, .int .u64 0, .int .u64 0, .int .u64 0, .int .u64 0, .int .u64 0, .int .u64 0] 83)) = W at *
  go_region_held3 (fun w' => w'.cell? ⟨w.heap.size, 0, none⟩ = some (.int .i64 a) ∧ w'.cell? ⟨w.heap.size, 1, none⟩ = some (.int .i64 b) ∧ w'.cell? ⟨w.heap.size, 2, none⟩ = some (.int .i64 c) ∧ w'.cell? ⟨w.heap.size, 3, none⟩ = some (.int .i64 d)) (first | (with_reducible exact en_cells T0) | (with_reducible exact en_cells T0.drew) | (with_reducible exact en_cells1 T0) | (with_reducible exact en_cells2 T0) | (with_reducible exact en_cells12 T0) | (with_reducible exact en_cells21 T0))
    (first
      | (go_at_call 123; have _t := tok1; refine (C1 _).mono ?_; rintro e v1 ⟨rfl, hB⟩; (first | (have T1 := T0.step hB) | (have T1 := T0.drew.step hB)); clear T0; have T0 := T1; clear T1; clear hB; clear tok1 _t)
      | (go_at_call 123; refine (C2 _).mono ?_; rintro e v2 ⟨rfl, hB⟩; (first | (have T1 := T0.step hB) | (have T1 := T0.drew.step hB)); clear T0; have T0 := T1; clear T1; clear hB; have rc0 := (T0.b 1 rfl).c 0 rfl; have rf0 := (T0.b 1 rfl).f 0 rfl; have rc1 := (T0.b 1 rfl).c 1 rfl; have rf1 := (T0.b 1 rfl).f 1 rfl; have rc2 := (T0.b 1 rfl).c 2 rfl; have rf2 := (T0.b 1 rfl).f 2 rfl; have rc3 := (T0.b 1 rfl).c 3 rfl; have rf3 := (T0.b 1 rfl).f 3 rfl; have rc4 := (T0.b 1 rfl).c 4 rfl; have rf4 := (T0.b 1 rfl).f 4 rfl; have rc5 := (T0.b 1 rfl).c 5 rfl; have rf5 := (T0.b 1 rfl).f 5 rfl; have rc6 := (T0.b 1 rfl).c 6 rfl; have rf6 := (T0.b 1 rfl).f 6 rfl; have rc7 := (T0.b 1 rfl).c 7 rfl; have rf7 := (T0.b 1 rfl).f 7 rfl; have rc8 := (T0.b 1 rfl).c 8 rfl; have rf8 := (T0.b 1 rfl).f 8 rfl; have rc9 := (T0.b 1 rfl).c 9 rfl; have rf9 := (T0.b 1 rfl).f 9 rfl; have rc10 := (T0.b 1 rfl).c 10 rfl; have rf10 := (T0.b 1 rfl).f 10 rfl; have rc11 := (T0.b 1 rfl).c 11 rfl; have rf11 := (T0.b 1 rfl).f 11 rfl; have sc0 := (T0.b 2 rfl).c 0 rfl; have sf0 := (T0.b 2 rfl).f 0 rfl; have sc1 := (T0.b 2 rfl).c 1 rfl; have sf1 := (T0.b 2 rfl).f 1 rfl; have sc2 := (T0.b 2 rfl).c 2 rfl; have sf2 := (T0.b 2 rfl).f 2 rfl; have sc3 := (T0.b 2 rfl).c 3 rfl; have sf3 := (T0.b 2 rfl).f 3 rfl; have sc4 := (T0.b 2 rfl).c 4 rfl; have sf4 := (T0.b 2 rfl).f 4 rfl; have sc5 := (T0.b 2 rfl).c 5 rfl; have sf5 := (T0.b 2 rfl).f 5 rfl; have sc6 := (T0.b 2 rfl).c 6 rfl; have sf6 := (T0.b 2 rfl).f 6 rfl; have sc7 := (T0.b 2 rfl).c 7 rfl; have sf7 := (T0.b 2 rfl).f 7 rfl; have sc8 := (T0.b 2 rfl).c 8 rfl; have sf8 := (T0.b 2 rfl).f 8 rfl; have sc9 := (T0.b 2 rfl).c 9 rfl; have sf9 := (T0.b 2 rfl).f 9 rfl; have sc10 := (T0.b 2 rfl).c 10 rfl; have sf10 := (T0.b 2 rfl).f 10 rfl; have sc11 := (T0.b 2 rfl).c 11 rfl; have sf11 := (T0.b 2 rfl).f 11 rfl; have rl := (T0.b 1 rfl).lt; have sl := (T0.b 2 rfl).lt))
  all_goals have HB := T0.below
  all_goals have X1 : Blk _ (w.heap.size + 1) _ := T0.b 1 rfl
  all_goals have X2 : Blk _ (w.heap.size + 1 + 1) _ := T0.b 2 rfl
  go_wp2
  have F1 : Blk ((((((((((((((((((((((((v2.setCell ⟨(w.heap.size + 1), 0, none⟩ (.int .u64 (ww3 a))).setCell ⟨(w.heap.size + 1), 1, none⟩ (.int .u64 (ww2 a))).setCell ⟨(w.heap.size + 1), 2, none⟩ (.int .u64 (ww1 a))).setCell ⟨(w.heap.size + 1), 3, none⟩ (.int .u64 (ww0 a))).setCell ⟨(w.heap.size + 1), 4, none⟩ (.int .u64 (ww3 b))).setCell ⟨(w.heap.size + 1), 5, none⟩ (.int .u64 (ww2 b))).setCell ⟨(w.heap.size + 1), 6, none⟩ (.int .u64 (ww1 b))).setCell ⟨(w.heap.size + 1), 7, none⟩ (.int .u64 (ww0 b))).setCell ⟨(w.heap.size + 1), 8, none⟩ (.int .u64 (ww3 1))).setCell ⟨(w.heap.size + 1), 9, none⟩ (.int .u64 (ww2 1))).setCell ⟨(w.heap.size + 1), 10, none⟩ (.int .u64 (ww1 1))).setCell ⟨(w.heap.size + 1), 11, none⟩ (.int .u64 (ww0 1))).setCell ⟨(w.heap.size + 1 + 1), 0, none⟩ (.int .u64 (ww3 c))).setCell ⟨(w.heap.size + 1 + 1), 1, none⟩ (.int .u64 (ww2 c))).setCell ⟨(w.heap.size + 1 + 1), 2, none⟩ (.int .u64 (ww1 c))).setCell ⟨(w.heap.size + 1 + 1), 3, none⟩ (.int .u64 (ww0 c))).setCell ⟨(w.heap.size + 1 + 1), 4, none⟩ (.int .u64 (ww3 d))).setCell ⟨(w.heap.size + 1 + 1), 5, none⟩ (.int .u64 (ww2 d))).setCell ⟨(w.heap.size + 1 + 1), 6, none⟩ (.int .u64 (ww1 d))).setCell ⟨(w.heap.size + 1 + 1), 7, none⟩ (.int .u64 (ww0 d))).setCell ⟨(w.heap.size + 1 + 1), 8, none⟩ (.int .u64 (ww3 1))).setCell ⟨(w.heap.size + 1 + 1), 9, none⟩ (.int .u64 (ww2 1))).setCell ⟨(w.heap.size + 1 + 1), 10, none⟩ (.int .u64 (ww1 1))).setCell ⟨(w.heap.size + 1 + 1), 11, none⟩ (.int .u64 (ww0 1))) (w.heap.size + 1) [.int .u64 (ww3 a), .int .u64 (ww2 a), .int .u64 (ww1 a), .int .u64 (ww0 a), .int .u64 (ww3 b), .int .u64 (ww2 b), .int .u64 (ww1 b), .int .u64 (ww0 b), .int .u64 (ww3 1), .int .u64 (ww2 1), .int .u64 (ww1 1), .int .u64 (ww0 1)] := (X1.stored12 (.int .u64 (ww3 a)) (.int .u64 (ww2 a)) (.int .u64 (ww1 a)) (.int .u64 (ww0 a)) (.int .u64 (ww3 b)) (.int .u64 (ww2 b)) (.int .u64 (ww1 b)) (.int .u64 (ww0 b)) (.int .u64 (ww3 1)) (.int .u64 (ww2 1)) (.int .u64 (ww1 1)) (.int .u64 (ww0 1))).set12 (by omega)
  have F2 : Blk ((((((((((((((((((((((((v2.setCell ⟨(w.heap.size + 1), 0, none⟩ (.int .u64 (ww3 a))).setCell ⟨(w.heap.size + 1), 1, none⟩ (.int .u64 (ww2 a))).setCell ⟨(w.heap.size + 1), 2, none⟩ (.int .u64 (ww1 a))).setCell ⟨(w.heap.size + 1), 3, none⟩ (.int .u64 (ww0 a))).setCell ⟨(w.heap.size + 1), 4, none⟩ (.int .u64 (ww3 b))).setCell ⟨(w.heap.size + 1), 5, none⟩ (.int .u64 (ww2 b))).setCell ⟨(w.heap.size + 1), 6, none⟩ (.int .u64 (ww1 b))).setCell ⟨(w.heap.size + 1), 7, none⟩ (.int .u64 (ww0 b))).setCell ⟨(w.heap.size + 1), 8, none⟩ (.int .u64 (ww3 1))).setCell ⟨(w.heap.size + 1), 9, none⟩ (.int .u64 (ww2 1))).setCell ⟨(w.heap.size + 1), 10, none⟩ (.int .u64 (ww1 1))).setCell ⟨(w.heap.size + 1), 11, none⟩ (.int .u64 (ww0 1))).setCell ⟨(w.heap.size + 1 + 1), 0, none⟩ (.int .u64 (ww3 c))).setCell ⟨(w.heap.size + 1 + 1), 1, none⟩ (.int .u64 (ww2 c))).setCell ⟨(w.heap.size + 1 + 1), 2, none⟩ (.int .u64 (ww1 c))).setCell ⟨(w.heap.size + 1 + 1), 3, none⟩ (.int .u64 (ww0 c))).setCell ⟨(w.heap.size + 1 + 1), 4, none⟩ (.int .u64 (ww3 d))).setCell ⟨(w.heap.size + 1 + 1), 5, none⟩ (.int .u64 (ww2 d))).setCell ⟨(w.heap.size + 1 + 1), 6, none⟩ (.int .u64 (ww1 d))).setCell ⟨(w.heap.size + 1 + 1), 7, none⟩ (.int .u64 (ww0 d))).setCell ⟨(w.heap.size + 1 + 1), 8, none⟩ (.int .u64 (ww3 1))).setCell ⟨(w.heap.size + 1 + 1), 9, none⟩ (.int .u64 (ww2 1))).setCell ⟨(w.heap.size + 1 + 1), 10, none⟩ (.int .u64 (ww1 1))).setCell ⟨(w.heap.size + 1 + 1), 11, none⟩ (.int .u64 (ww0 1))) (w.heap.size + 1 + 1) [.int .u64 (ww3 c), .int .u64 (ww2 c), .int .u64 (ww1 c), .int .u64 (ww0 c), .int .u64 (ww3 d), .int .u64 (ww2 d), .int .u64 (ww1 d), .int .u64 (ww0 d), .int .u64 (ww3 1), .int .u64 (ww2 1), .int .u64 (ww1 1), .int .u64 (ww0 1)] := (X2.set12 (by omega)).stored12 (.int .u64 (ww3 c)) (.int .u64 (ww2 c)) (.int .u64 (ww1 c)) (.int .u64 (ww0 c)) (.int .u64 (ww3 d)) (.int .u64 (ww2 d)) (.int .u64 (ww1 d)) (.int .u64 (ww0 d)) (.int .u64 (ww3 1)) (.int .u64 (ww2 1)) (.int .u64 (ww1 1)) (.int .u64 (ww0 1))
  have HBF : Below w.heap.size w ((((((((((((((((((((((((v2.setCell ⟨(w.heap.size + 1), 0, none⟩ (.int .u64 (ww3 a))).setCell ⟨(w.heap.size + 1), 1, none⟩ (.int .u64 (ww2 a))).setCell ⟨(w.heap.size + 1), 2, none⟩ (.int .u64 (ww1 a))).setCell ⟨(w.heap.size + 1), 3, none⟩ (.int .u64 (ww0 a))).setCell ⟨(w.heap.size + 1), 4, none⟩ (.int .u64 (ww3 b))).setCell ⟨(w.heap.size + 1), 5, none⟩ (.int .u64 (ww2 b))).setCell ⟨(w.heap.size + 1), 6, none⟩ (.int .u64 (ww1 b))).setCell ⟨(w.heap.size + 1), 7, none⟩ (.int .u64 (ww0 b))).setCell ⟨(w.heap.size + 1), 8, none⟩ (.int .u64 (ww3 1))).setCell ⟨(w.heap.size + 1), 9, none⟩ (.int .u64 (ww2 1))).setCell ⟨(w.heap.size + 1), 10, none⟩ (.int .u64 (ww1 1))).setCell ⟨(w.heap.size + 1), 11, none⟩ (.int .u64 (ww0 1))).setCell ⟨(w.heap.size + 1 + 1), 0, none⟩ (.int .u64 (ww3 c))).setCell ⟨(w.heap.size + 1 + 1), 1, none⟩ (.int .u64 (ww2 c))).setCell ⟨(w.heap.size + 1 + 1), 2, none⟩ (.int .u64 (ww1 c))).setCell ⟨(w.heap.size + 1 + 1), 3, none⟩ (.int .u64 (ww0 c))).setCell ⟨(w.heap.size + 1 + 1), 4, none⟩ (.int .u64 (ww3 d))).setCell ⟨(w.heap.size + 1 + 1), 5, none⟩ (.int .u64 (ww2 d))).setCell ⟨(w.heap.size + 1 + 1), 6, none⟩ (.int .u64 (ww1 d))).setCell ⟨(w.heap.size + 1 + 1), 7, none⟩ (.int .u64 (ww0 d))).setCell ⟨(w.heap.size + 1 + 1), 8, none⟩ (.int .u64 (ww3 1))).setCell ⟨(w.heap.size + 1 + 1), 9, none⟩ (.int .u64 (ww2 1))).setCell ⟨(w.heap.size + 1 + 1), 10, none⟩ (.int .u64 (ww1 1))).setCell ⟨(w.heap.size + 1 + 1), 11, none⟩ (.int .u64 (ww0 1))) := Below.set12 (by omega) (Below.set12 (by omega) HB)
  generalize ((((((((((((((((((((((((v2.setCell ⟨(w.heap.size + 1), 0, none⟩ (.int .u64 (ww3 a))).setCell ⟨(w.heap.size + 1), 1, none⟩ (.int .u64 (ww2 a))).setCell ⟨(w.heap.size + 1), 2, none⟩ (.int .u64 (ww1 a))).setCell ⟨(w.heap.size + 1), 3, none⟩ (.int .u64 (ww0 a))).setCell ⟨(w.heap.size + 1), 4, none⟩ (.int .u64 (ww3 b))).setCell ⟨(w.heap.size + 1), 5, none⟩ (.int .u64 (ww2 b))).setCell ⟨(w.heap.size + 1), 6, none⟩ (.int .u64 (ww1 b))).setCell ⟨(w.heap.size + 1), 7, none⟩ (.int .u64 (ww0 b))).setCell ⟨(w.heap.size + 1), 8, none⟩ (.int .u64 (ww3 1))).setCell ⟨(w.heap.size + 1), 9, none⟩ (.int .u64 (ww2 1))).setCell ⟨(w.heap.size + 1), 10, none⟩ (.int .u64 (ww1 1))).setCell ⟨(w.heap.size + 1), 11, none⟩ (.int .u64 (ww0 1))).setCell ⟨(w.heap.size + 1 + 1), 0, none⟩ (.int .u64 (ww3 c))).setCell ⟨(w.heap.size + 1 + 1), 1, none⟩ (.int .u64 (ww2 c))).setCell ⟨(w.heap.size + 1 + 1), 2, none⟩ (.int .u64 (ww1 c))).setCell ⟨(w.heap.size + 1 + 1), 3, none⟩ (.int .u64 (ww0 c))).setCell ⟨(w.heap.size + 1 + 1), 4, none⟩ (.int .u64 (ww3 d))).setCell ⟨(w.heap.size + 1 + 1), 5, none⟩ (.int .u64 (ww2 d))).setCell ⟨(w.heap.size + 1 + 1), 6, none⟩ (.int .u64 (ww1 d))).setCell ⟨(w.heap.size + 1 + 1), 7, none⟩ (.int .u64 (ww0 d))).setCell ⟨(w.heap.size + 1 + 1), 8, none⟩ (.int .u64 (ww3 1))).setCell ⟨(w.heap.size + 1 + 1), 9, none⟩ (.int .u64 (ww2 1))).setCell ⟨(w.heap.size + 1 + 1), 10, none⟩ (.int .u64 (ww1 1))).setCell ⟨(w.heap.size + 1 + 1), 11, none⟩ (.int .u64 (ww0 1))) = WF at *
  have m0 := F1.c 0 rfl; have n0 := F2.c 0 rfl; have m1 := F1.c 1 rfl; have n1 := F2.c 1 rfl; have m2 := F1.c 2 rfl; have n2 := F2.c 2 rfl; have m3 := F1.c 3 rfl; have n3 := F2.c 3 rfl; have m4 := F1.c 4 rfl; have n4 := F2.c 4 rfl; have m5 := F1.c 5 rfl; have n5 := F2.c 5 rfl; have m6 := F1.c 6 rfl; have n6 := F2.c 6 rfl; have m7 := F1.c 7 rfl; have n7 := F2.c 7 rfl; have m8 := F1.c 8 rfl; have n8 := F2.c 8 rfl; have m9 := F1.c 9 rfl; have n9 := F2.c 9 rfl; have m10 := F1.c 10 rfl; have n10 := F2.c 10 rfl; have m11 := F1.c 11 rfl; have n11 := F2.c 11 rfl
  refine bodyPost_ret (v := .tuple #[PV a b 1, PV c d 1]) (by simp [results, Try.results160, go_sem, m0, n0, m1, n1, m2, n2, m3, n3, m4, n4, m5, n5, m6, n6, m7, n7, m8, n8, m9, n9, m10, n10, m11, n11]) rfl ?_
  exact ⟨rfl, HBF⟩
end Go.Proofs.Ytmjlgmoohpnhfaa

/- The walk of the model's quotient and rest of numbers with signs. -/
namespace Go.Proofs.Ytmjlgmoohpnhfaa
open Go.RowKit
def Div2P (k : Nat) (x y : Int) (w : World) (e : Ending) (w' : World) : Prop :=
  ∃ (s2 : Bool) (o2 : Option Addr) (n2 c2 : Nat) (d2 : List Int) (s3 : Bool) (o3 : Option Addr) (n3 c3 : Nat) (d3 : List Int), e = .returned (.tuple #[.agg #[.bool s2, .slice o2 n2 c2], .agg #[.bool s3, .slice o3 n3 c3]]) ∧ IsNum w' s2 o2 n2 c2 d2 (x / y) (k + 3) ∧ IsNum w' s3 o3 n3 c3 d3 (x % y) (k + 3) ∧ Below w.heap.size w w'
theorem num_put {w : World} {s : Bool} {ao : Option Addr} {n cap : Nat} {ds : List Int} {z : Int} {k R : Nat} {p : Bool} {q : Option Addr} {q1 q2 : Nat} (h : IsNum w s ao n cap ds z k) (B : Blk w R [.bool p, .slice q q1 q2]) (u0 u1 : Value) : IsNum ((w.setCell ⟨R, 0, none⟩ u0).setCell ⟨R, 1, none⟩ u1) s ao n cap ds z k := by
  have h1 := h.rd.set u0 (B.c 0 rfl) (by intro x e; cases e)
  have B1 := B.setI 0 (by simp) u0
  have h2 := h1.set u1 (B1.c 1 rfl) (by intro x e; cases e)
  exact ⟨h.neg, h.len, h.cap, h2, h.nrm, h.val, h.le⟩
theorem num_more {w : World} {s : Bool} {ao : Option Addr} {n cap : Nat} {ds : List Int} {z : Int} {k k' : Nat} (h : IsNum w s ao n cap ds z k) (hk : k ≤ k') : IsNum w s ao n cap ds z k' := ⟨h.neg, h.len, h.cap, h.rd, h.nrm, h.val, Nat.le_trans h.le hk⟩
theorem num_drawn {w : World} {s : Bool} {ao : Option Addr} {n cap : Nat} {ds : List Int} {z : Int} {k : Nat} (h : IsNum w s ao n cap ds z k) : IsNum w.drew s ao n cap ds z k := ⟨h.neg, h.len, h.cap, h.rd, h.nrm, h.val, h.le⟩
theorem div_done {w W : World} {s2 s3 : Bool} {o2 o3 : Option Addr} {n2 c2 n3 c3 : Nat} {d2 d3 : List Int} {x y : Int} {k : Nat} (HB : Below w.heap.size w W) (NU : IsNum W s2 o2 n2 c2 d2 (x / y) (k + 3)) (NV : IsNum W s3 o3 n3 c3 d3 (x % y) (k + 3)) (C : Blk W (w.heap.size + 1 + 1) [.bool false, .slice none 0 0]) (D : Blk W (w.heap.size + 1 + 1 + 1) [.bool false, .slice none 0 0]) :
    Div2P k x y w (.returned (.tuple #[.agg #[.bool s2, .slice o2 n2 c2], .agg #[.bool s3, .slice o3 n3 c3]])) ((((W.setCell ⟨w.heap.size + 1 + 1, 0, none⟩ (.bool s2)).setCell ⟨w.heap.size + 1 + 1, 1, none⟩ (.slice o2 n2 c2)).setCell ⟨w.heap.size + 1 + 1 + 1, 0, none⟩ (.bool s3)).setCell ⟨w.heap.size + 1 + 1 + 1, 1, none⟩ (.slice o3 n3 c3)) := by
  have D' := (D.setO (p := ⟨w.heap.size + 1 + 1, 0, none⟩) (by simp) (.bool s2)).setO (p := ⟨w.heap.size + 1 + 1, 1, none⟩) (by simp) (.slice o2 n2 c2)
  refine ⟨s2, o2, n2, c2, d2, s3, o3, n3, c3, d3, rfl, num_put (num_put NU C _ _) D' _ _, num_put (num_put NV C _ _) D' _ _, ?_⟩
  exact (((HB.setCell (p := ⟨w.heap.size + 1 + 1, 0, none⟩) (by simp; omega) _).setCell (p := ⟨w.heap.size + 1 + 1, 1, none⟩) (by simp; omega) _).setCell (p := ⟨w.heap.size + 1 + 1 + 1, 0, none⟩) (by simp; omega) _).setCell (p := ⟨w.heap.size + 1 + 1 + 1, 1, none⟩) (by simp; omega) _
theorem div_drawn {w W : World} {k : Nat} {x y : Int} {e : Ending} (h : Div2P k x y w e W) : Div2P k x y w e W.drew := by
  obtain ⟨s2, o2, n2, c2, d2, s3, o3, n3, c3, d3, e, h1, h2, hB⟩ := h
  exact ⟨s2, o2, n2, c2, d2, s3, o3, n3, c3, d3, e, num_drawn h1, num_drawn h2, hB.drew⟩
theorem div_alloc {w W : World} {k : Nat} {x y : Int} {e : Ending} (h : Div2P k x y w e W) (o : Obj) : Div2P k x y w e (W.alloc o) := by
  obtain ⟨s2, o2, n2, c2, d2, s3, o3, n3, c3, d3, e, h1, h2, hB⟩ := h
  exact ⟨s2, o2, n2, c2, d2, s3, o3, n3, c3, d3, e, h1.below ((Below.refl _ _).alloc (Nat.le_refl _) o), h2.below ((Below.refl _ _).alloc (Nat.le_refl _) o), hB.alloc hB.size o⟩
set_option maxRecDepth 100000 in
set_option maxHeartbeats 4000000 in
theorem div_any (s t : Bool) (ao bo : Option Addr) (n m ca cb k : Nat) (xs ys : List Int) (x y : Int) (w : World) (hx : IsNum w s ao n ca xs x k) (hy : IsNum w t bo m cb ys y k) (hk : k ≤ 9000) (hy0 : y ≠ 0) :
    Calls Try.prog 147 #[.agg #[.bool s, .slice ao n ca], .agg #[.bool t, .slice bo m cb]] w (Div2P k x y w) := by
  obtain ⟨Q, R, eQ, eR, hQ0, hR0, hR1, hqr⟩ := div_parts x y hy0
  have DS := div_signs hy0 hR0 hR1 hqr
  have hs : Hid (s = decide (x < 0)) := hx.neg
  have ht : Hid (t = decide (y < 0)) := hy.neg
  have A := (((Blk.new w [.bool s, .slice ao n ca] 89 rfl).alloc (.cells #[.bool t, .slice bo m cb] 89)).alloc (.cells #[.bool false, .slice none 0 0] 89)).alloc (.cells #[.bool false, .slice none 0 0] 89)
  have B := ((Blk.new (w.alloc (.cells #[.bool s, .slice ao n ca] 89)) [.bool t, .slice bo m cb] 89 (g := w.heap.size + 1) (by simp)).alloc (.cells #[.bool false, .slice none 0 0] 89)).alloc (.cells #[.bool false, .slice none 0 0] 89)
  have C := (Blk.new ((w.alloc (.cells #[.bool s, .slice ao n ca] 89)).alloc (.cells #[.bool t, .slice bo m cb] 89)) [.bool false, .slice none 0 0] 89 (g := w.heap.size + 1 + 1) (by simp)).alloc (.cells #[.bool false, .slice none 0 0] 89)
  have D := Blk.new (((w.alloc (.cells #[.bool s, .slice ao n ca] 89)).alloc (.cells #[.bool t, .slice bo m cb] 89)).alloc (.cells #[.bool false, .slice none 0 0] 89)) [.bool false, .slice none 0 0] 89 (g := w.heap.size + 1 + 1 + 1) (by simp)
  have HB0 : Below w.heap.size w ((((w.alloc (.cells #[.bool s, .slice ao n ca] 89)).alloc (.cells #[.bool t, .slice bo m cb] 89)).alloc (.cells #[.bool false, .slice none 0 0] 89)).alloc (.cells #[.bool false, .slice none 0 0] 89)) := ((((Below.refl _ _).alloc (Nat.le_refl _) _).alloc (by simp) _).alloc (by simp; omega) _).alloc (by simp; omega) _
  replace hx := hx.below HB0
  replace hy := hy.below HB0
  have hyp : 0 < val ys := by rw [hy.val]; omega
  go_enter Try.func147, Try.ntmps147
  go_wp2_with fail
  refine (divAbs_any ao bo n m ca cb xs ys _ hx.len hy.len hx.nrm hy.nrm hx.rd hy.rd hx.cap (by have := hx.le; omega) (by have := hy.le; omega) hyp).mono ?_
  rintro e w1 ⟨qo, qn, qc, qs, ro, rn, rc, rs, rfl, ⟨a1, a2, a3, a4, a5, a6⟩, ⟨b1, b2, b3, b4, b5, b6⟩, hB⟩
  rw [hx.val, hy.val] at a5 b5
  rw [eQ] at a5
  rw [eR] at b5
  have hnk := hx.le
  replace hy := hy.below hB
  replace A := A.step hB; replace B := B.step hB; replace C := C.step hB; replace D := D.step hB
  have HB1 : Below w.heap.size w w1 := HB0.trans (hB.mono HB0.size)
  clear hB HB0 hx hyp
  have p0 := A.c 0 rfl; have p1 := A.c 1 rfl; have pl := A.lt; have q0 := B.c 0 rfl; have q1 := B.c 1 rfl; have ql := B.lt
  go_wp2_with fail
  refine (trim_any _ qo qn qc qs _ a1 a2 a4.1 a6 (by omega)).mono ?_
  rintro e w2 ⟨s2, o2, n2, c2, d2, rfl, t1, t2, t3, t4, t5, t6, t7, hB⟩
  have NU : IsNum w2 s2 o2 n2 c2 d2 (if s = t then Q else -Q) (k + 1) := num_of t1 t2 (by omega) t4 (t5.trans a5) (by rw [t6, a5]) t7 (by split <;> omega) (by intro hz; cases s <;> cases t <;> simp at hz ⊢ <;> omega)
  replace b6 := b6.below hB (Nat.le_refl _)
  replace hy := hy.below hB
  replace A := A.step hB; replace B := B.step hB; replace C := C.step hB; replace D := D.step hB
  have HB2 : Below w.heap.size w w2 := HB1.trans (hB.mono HB1.size)
  clear hB HB1 t1 t2 t3 t4 t5 t6 t7 a1 a2 a3 a4 a5 a6 p0 p1 pl q0 q1 ql
  have p0 := A.c 0 rfl; have p1 := A.c 1 rfl; have pl := A.lt; have q0 := B.c 0 rfl; have q1 := B.c 1 rfl; have ql := B.lt
  have hDU := D.lt
  have U := Blk.new w2 [.bool s2, .slice o2 n2 c2] 89 rfl
  have hal : Below w2.heap.size w2 (w2.alloc (.cells #[.bool s2, .slice o2 n2 c2] 89)) := (Below.refl _ _).alloc (Nat.le_refl _) _
  replace A := A.step hal; replace B := B.step hal; replace C := C.step hal; replace D := D.step hal
  replace NU := NU.below hal
  replace hy := hy.below hal
  replace b6 := b6.below hal (Nat.le_refl _)
  replace HB2 := HB2.alloc HB2.size (.cells #[.bool s2, .slice o2 n2 c2] 89)
  clear hal
  go_wp2_with fail
  refine (trim_any s ro rn rc rs _ b1 b2 b4.1 b6 (by omega)).mono ?_
  rintro e w3 ⟨s3, o3, n3, c3, d3, rfl, t1, t2, t3, t4, t5, t6, t7, hB⟩
  have NV : IsNum w3 s3 o3 n3 c3 d3 (if s then -R else R) (k + 1) := num_of t1 t2 (by omega) t4 (t5.trans b5) (by rw [t6, b5]) t7 (by split <;> omega) (by intro hz; cases s <;> simp at hz ⊢ <;> omega)
  replace hy := hy.below hB
  replace NU := NU.below hB
  replace A := A.step hB; replace B := B.step hB; replace C := C.step hB; replace D := D.step hB; replace U := U.step hB
  have HB3 : Below w.heap.size w w3 := HB2.trans (hB.mono HB2.size)
  have hUl := U.lt; have hBl := B.lt; have hCl := C.lt; have hDl := D.lt
  have nBU : w.heap.size + 1 + 1 + 1 < w2.heap.size := hDU
  clear hB HB2 t1 t2 t3 t4 t5 t6 t7 b1 b2 b3 b4 b5 b6 p0 p1 pl q0 q1 ql
  have q0 := B.c 0 rfl; have q1 := B.c 1 rfl; have ql := B.lt; have u0 := U.c 0 rfl; have uf0 := U.f 0 rfl; have u1 := U.c 1 rfl; have uf1 := U.f 1 rfl; have ul := U.lt; have c0 := C.c 0 rfl; have cf0 := C.f 0 rfl; have c1 := C.c 1 rfl; have cf1 := C.f 1 rfl; have cl := C.lt; have d0 := D.c 0 rfl; have df0 := D.f 0 rfl; have d1 := D.c 1 rfl; have df1 := D.f 1 rfl; have dl := D.lt
  have NU3 := NU; have NV3 := NV; have C3 := C; have D3 := D; have HB3' := HB3
  have V := Blk.new w3 [.bool s3, .slice o3 n3 c3] 89 rfl
  have hal : Below w3.heap.size w3 (w3.alloc (.cells #[.bool s3, .slice o3 n3 c3] 89)) := (Below.refl _ _).alloc (Nat.le_refl _) _
  replace B := B.step hal; replace C := C.step hal; replace D := D.step hal; replace U := U.step hal
  replace NU := NU.below hal
  replace NV := NV.below hal
  replace hy := hy.below hal
  have HB4 := HB3.alloc HB3.size (.cells #[.bool s3, .slice o3 n3 c3] 89)
  have nUV : w2.heap.size < w3.heap.size := hUl
  clear hal HB3
  have hneg := NV.neg
  by_cases hv : s3 = true
  · subst hv
    have es : s = true := by
      apply Decidable.byContradiction
      intro h
      rw [Bool.eq_false_iff.2 h] at hneg
      simp at hneg
      omega
    have hRp : 0 < R := by rw [es] at hneg; simp at hneg; exact hneg
    have hx0 : x < 0 := by have := hs.out; rw [es] at this; simpa using this.symm
    subst es
    obtain ⟨-, -, -, -, D5, D6⟩ := DS
    have J : ∀ W, Below (w3.alloc (.cells #[.bool true, .slice o3 n3 c3] 89)).heap.size (w3.alloc (.cells #[.bool true, .slice o3 n3 c3] 89)) W → (Blk W (w.heap.size + 1) [.bool t, .slice bo m cb] ∧ Blk W (w.heap.size + 1 + 1) [.bool false, .slice none 0 0] ∧ Blk W (w.heap.size + 1 + 1 + 1) [.bool false, .slice none 0 0] ∧ Blk W w2.heap.size [.bool s2, .slice o2 n2 c2] ∧ Blk W w3.heap.size [.bool true, .slice o3 n3 c3]) ∧ IsNum W s2 o2 n2 c2 d2 (if true = t then Q else -Q) (k + 1) ∧ IsNum W true o3 n3 c3 d3 (-R) (k + 1) ∧ IsNum W t bo m cb ys y k ∧ Below w.heap.size w W :=
      fun W h => ⟨⟨B.step h, C.step h, D.step h, U.step h, V.step h⟩, NU.below h, by simpa using NV.below h, hy.below h, HB4.trans (h.mono HB4.size)⟩
    clear NU NV NU3 NV3 C3 D3 HB3' A B C D U V HB4 hy hneg hs
    cases t
    · have hyp : 0 < y := by have := ht.out; simp at this; omega
      go_upto_region 8 with fail
      generalize w3.alloc (.cells #[.bool true, .slice o3 n3 c3] 89) = W0 at *
      obtain ⟨⟨jb, jc, jd, ju, jv⟩, jn, jr, jy, jB⟩ := J W0 (Below.refl _ _)
      clear u0 u1 uf0 uf1 ul q0 q1 ql c0 c1 cf0 cf1 cl d0 d1 df0 df1 dl
      have u0 := ju.c 0 rfl; have uf0 := ju.f 0 rfl; have u1 := ju.c 1 rfl; have uf1 := ju.f 1 rfl; have ul := ju.lt
      go_region_with ((first
        | (go_at_call 93; refine (int_any 1 _ (by decide) (by decide)).mono ?_; rintro e w5 ⟨s5, o5, n5, c5, d5, rfl, N5, hB⟩; have K5 : Below W0.heap.size W0 w5 := ((Below.refl _ _).drew).trans hB; obtain ⟨⟨ib, ic, id', iu, iv⟩, jn5, ir, iy, iB⟩ := J w5 K5; have h0 := iu.c 0 rfl; have hf0 := iu.f 0 rfl; have h1 := iu.c 1 rfl; have hf1 := iu.f 1 rfl; have hl := iu.lt; clear hB)
        | (go_at_call 134; refine (sub_any s2 s5 o2 o5 n2 n5 c2 c5 (k + 2) d2 d5 _ _ _ (num_more jn5 (by omega)) (num_more N5 (by omega)) (by omega)).mono ?_; rintro e w6 ⟨s6, o6, n6, c6, d6, rfl, N6, hB⟩; have K6 : Below W0.heap.size W0 w6 := K5.trans (hB.mono K5.size); obtain ⟨⟨lb, lc, ld, lu, lv⟩, ln, lr, ly, lB⟩ := J w6 K6; have i0 := lu.c 0 rfl; have if0 := lu.f 0 rfl; have i1 := lu.c 1 rfl; have if1 := lu.f 1 rfl; have il := lu.lt; clear hB)))
      all_goals have g1 : w.heap.size + 1 ≠ w2.heap.size := by omega
      all_goals have g2 : w.heap.size + 1 + 1 ≠ w2.heap.size := by omega
      all_goals have g3 : w.heap.size + 1 + 1 + 1 ≠ w2.heap.size := by omega
      all_goals have g4 : w3.heap.size ≠ w2.heap.size := by omega
      all_goals have B6 := ((lb.setO (p := ⟨w2.heap.size, 0, none⟩) (by exact g1) (.bool s6)).setO (p := ⟨w2.heap.size, 1, none⟩) (by exact g1) (.slice o6 n6 c6))
      all_goals have C6 := ((lc.setO (p := ⟨w2.heap.size, 0, none⟩) (by exact g2) (.bool s6)).setO (p := ⟨w2.heap.size, 1, none⟩) (by exact g2) (.slice o6 n6 c6))
      all_goals have D6' := ((ld.setO (p := ⟨w2.heap.size, 0, none⟩) (by exact g3) (.bool s6)).setO (p := ⟨w2.heap.size, 1, none⟩) (by exact g3) (.slice o6 n6 c6))
      all_goals have V6 := ((lv.setO (p := ⟨w2.heap.size, 0, none⟩) (by exact g4) (.bool s6)).setO (p := ⟨w2.heap.size, 1, none⟩) (by exact g4) (.slice o6 n6 c6))
      all_goals have M6 := num_put N6 lu (.bool s6) (.slice o6 n6 c6)
      all_goals have R6 := num_put lr lu (.bool s6) (.slice o6 n6 c6)
      all_goals have Y6 := num_put ly lu (.bool s6) (.slice o6 n6 c6)
      all_goals have U6 := (lu.setI 0 (by simp) (.bool s6)).setI 1 (by simp) (.slice o6 n6 c6)
      all_goals have L6 := (lB.setCell (p := ⟨w2.heap.size, 0, none⟩) (by simp; omega) (.bool s6)).setCell (p := ⟨w2.heap.size, 1, none⟩) (by simp; omega) (.slice o6 n6 c6)
      all_goals clear u0 u1 uf0 uf1 ul h0 h1 hf0 hf1 hl i0 i1 if0 if1 il jb jc jd ju jv jn jr jy jB ib ic id' iu iv jn5 ir iy iB lb lc ld lu lv ln lr ly lB N5 N6 K5 K6 J
      all_goals generalize ((w6.setCell ⟨w2.heap.size, 0, none⟩ (.bool s6)).setCell ⟨w2.heap.size, 1, none⟩ (.slice o6 n6 c6)) = W6 at *
      all_goals (have v0 := V6.c 0 rfl; have v1 := V6.c 1 rfl; have vl := V6.lt; have x0 := B6.c 0 rfl; have x1 := B6.c 1 rfl; have xl := B6.lt)
      all_goals go_wp2_with fail
      all_goals refine (add_any true false o3 bo n3 m c3 cb (k + 1) d3 ys _ _ _ R6 (num_more Y6 (by omega)) (by omega)).mono ?_
      all_goals rintro e w7 ⟨s7, o7, n7, c7, d7, rfl, N7, hB⟩
      all_goals (replace C6 := C6.step hB; replace D6' := D6'.step hB; replace V6 := V6.step hB; replace U6 := U6.step hB; replace M6 := M6.below hB; replace L6 := L6.trans (hB.mono L6.size))
      all_goals clear hB v0 v1 vl x0 x1 xl
      all_goals have g5 : w.heap.size + 1 + 1 ≠ w3.heap.size := by omega
      all_goals have g6 : w.heap.size + 1 + 1 + 1 ≠ w3.heap.size := by omega
      all_goals have g7 : w2.heap.size ≠ w3.heap.size := by omega
      all_goals (have v0 := V6.c 0 rfl; have vf0 := V6.f 0 rfl; have v1 := V6.c 1 rfl; have vf1 := V6.f 1 rfl; have vl := V6.lt)
      all_goals have C7 := ((C6.setO (p := ⟨w3.heap.size, 0, none⟩) (by exact g5) (.bool s7)).setO (p := ⟨w3.heap.size, 1, none⟩) (by exact g5) (.slice o7 n7 c7))
      all_goals have D7 := ((D6'.setO (p := ⟨w3.heap.size, 0, none⟩) (by exact g6) (.bool s7)).setO (p := ⟨w3.heap.size, 1, none⟩) (by exact g6) (.slice o7 n7 c7))
      all_goals have U7 := ((U6.setO (p := ⟨w3.heap.size, 0, none⟩) (by exact g7) (.bool s7)).setO (p := ⟨w3.heap.size, 1, none⟩) (by exact g7) (.slice o7 n7 c7))
      all_goals have M7 := num_put M6 V6 (.bool s7) (.slice o7 n7 c7)
      all_goals have P7 := num_put N7 V6 (.bool s7) (.slice o7 n7 c7)
      all_goals have L7 := (L6.setCell (p := ⟨w3.heap.size, 0, none⟩) (by simp; omega) (.bool s7)).setCell (p := ⟨w3.heap.size, 1, none⟩) (by simp; omega) (.slice o7 n7 c7)
      all_goals obtain ⟨E1, E2⟩ := D5 hx0 hRp hyp
      all_goals rw [show (if true = false then Q else -Q) - 1 = x / y by rw [E1]; simp] at M7
      all_goals rw [show -R + y = x % y by rw [E2]] at P7
      all_goals have F := div_done (k := k) L7 M7 (num_more P7 (Nat.le_succ _)) C7 D7
      all_goals (have c0 := C7.c 0 rfl; have cf0 := C7.f 0 rfl; have c1 := C7.c 1 rfl; have cf1 := C7.f 1 rfl; have cl := C7.lt; have d0 := D7.c 0 rfl; have df0 := D7.f 0 rfl; have d1 := D7.c 1 rfl; have df1 := D7.f 1 rfl; have dl := D7.lt; have u0 := U7.c 0 rfl; have u1 := U7.c 1 rfl; have ul := U7.lt)
      all_goals clear C6 D6' V6 U6 M6 L6 C7 D7 U7 M7 P7 L7 N7 g1 g2 g3 g4 g5 g6 g7
      all_goals go_wp2
      all_goals go_region
      all_goals go_wp2
      all_goals refine bodyPost_ret (v := .tuple #[.agg #[.bool s6, .slice o6 n6 c6], .agg #[.bool s7, .slice o7 n7 c7]]) (by simp [results, Try.results147, go_sem, c0, c1, d0, d1]) rfl ?_
      all_goals exact div_drawn F
    · have hyp : y < 0 := by have := ht.out; simpa using this.symm
      go_upto_region 6 with fail
      generalize w3.alloc (.cells #[.bool true, .slice o3 n3 c3] 89) = W0 at *
      obtain ⟨⟨jb, jc, jd, ju, jv⟩, jn, jr, jy, jB⟩ := J W0 (Below.refl _ _)
      clear u0 u1 uf0 uf1 ul q0 q1 ql c0 c1 cf0 cf1 cl d0 d1 df0 df1 dl
      have u0 := ju.c 0 rfl; have uf0 := ju.f 0 rfl; have u1 := ju.c 1 rfl; have uf1 := ju.f 1 rfl; have ul := ju.lt
      go_region_with ((first
        | (go_at_call 93; refine (int_any 1 _ (by decide) (by decide)).mono ?_; rintro e w5 ⟨s5, o5, n5, c5, d5, rfl, N5, hB⟩; have K5 : Below W0.heap.size W0 w5 := ((Below.refl _ _).drew).trans hB; obtain ⟨⟨ib, ic, id', iu, iv⟩, jn5, ir, iy, iB⟩ := J w5 K5; have h0 := iu.c 0 rfl; have hf0 := iu.f 0 rfl; have h1 := iu.c 1 rfl; have hf1 := iu.f 1 rfl; have hl := iu.lt; clear hB)
        | (go_at_call 118; refine (add_any s2 s5 o2 o5 n2 n5 c2 c5 (k + 2) d2 d5 _ _ _ (num_more jn5 (by omega)) (num_more N5 (by omega)) (by omega)).mono ?_; rintro e w6 ⟨s6, o6, n6, c6, d6, rfl, N6, hB⟩; have K6 : Below W0.heap.size W0 w6 := K5.trans (hB.mono K5.size); obtain ⟨⟨lb, lc, ld, lu, lv⟩, ln, lr, ly, lB⟩ := J w6 K6; have i0 := lu.c 0 rfl; have if0 := lu.f 0 rfl; have i1 := lu.c 1 rfl; have if1 := lu.f 1 rfl; have il := lu.lt; clear hB)))
      all_goals have g1 : w.heap.size + 1 ≠ w2.heap.size := by omega
      all_goals have g2 : w.heap.size + 1 + 1 ≠ w2.heap.size := by omega
      all_goals have g3 : w.heap.size + 1 + 1 + 1 ≠ w2.heap.size := by omega
      all_goals have g4 : w3.heap.size ≠ w2.heap.size := by omega
      all_goals have B6 := ((lb.setO (p := ⟨w2.heap.size, 0, none⟩) (by exact g1) (.bool s6)).setO (p := ⟨w2.heap.size, 1, none⟩) (by exact g1) (.slice o6 n6 c6))
      all_goals have C6 := ((lc.setO (p := ⟨w2.heap.size, 0, none⟩) (by exact g2) (.bool s6)).setO (p := ⟨w2.heap.size, 1, none⟩) (by exact g2) (.slice o6 n6 c6))
      all_goals have D6' := ((ld.setO (p := ⟨w2.heap.size, 0, none⟩) (by exact g3) (.bool s6)).setO (p := ⟨w2.heap.size, 1, none⟩) (by exact g3) (.slice o6 n6 c6))
      all_goals have V6 := ((lv.setO (p := ⟨w2.heap.size, 0, none⟩) (by exact g4) (.bool s6)).setO (p := ⟨w2.heap.size, 1, none⟩) (by exact g4) (.slice o6 n6 c6))
      all_goals have M6 := num_put N6 lu (.bool s6) (.slice o6 n6 c6)
      all_goals have R6 := num_put lr lu (.bool s6) (.slice o6 n6 c6)
      all_goals have Y6 := num_put ly lu (.bool s6) (.slice o6 n6 c6)
      all_goals have U6 := (lu.setI 0 (by simp) (.bool s6)).setI 1 (by simp) (.slice o6 n6 c6)
      all_goals have L6 := (lB.setCell (p := ⟨w2.heap.size, 0, none⟩) (by simp; omega) (.bool s6)).setCell (p := ⟨w2.heap.size, 1, none⟩) (by simp; omega) (.slice o6 n6 c6)
      all_goals clear u0 u1 uf0 uf1 ul h0 h1 hf0 hf1 hl i0 i1 if0 if1 il jb jc jd ju jv jn jr jy jB ib ic id' iu iv jn5 ir iy iB lb lc ld lu lv ln lr ly lB N5 N6 K5 K6 J
      all_goals generalize ((w6.setCell ⟨w2.heap.size, 0, none⟩ (.bool s6)).setCell ⟨w2.heap.size, 1, none⟩ (.slice o6 n6 c6)) = W6 at *
      all_goals (have v0 := V6.c 0 rfl; have v1 := V6.c 1 rfl; have vl := V6.lt; have x0 := B6.c 0 rfl; have x1 := B6.c 1 rfl; have xl := B6.lt)
      all_goals go_wp2_with fail
      all_goals refine (sub_any true true o3 bo n3 m c3 cb (k + 1) d3 ys _ _ _ R6 (num_more Y6 (by omega)) (by omega)).mono ?_
      all_goals rintro e w7 ⟨s7, o7, n7, c7, d7, rfl, N7, hB⟩
      all_goals (replace C6 := C6.step hB; replace D6' := D6'.step hB; replace V6 := V6.step hB; replace U6 := U6.step hB; replace M6 := M6.below hB; replace L6 := L6.trans (hB.mono L6.size))
      all_goals clear hB v0 v1 vl x0 x1 xl
      all_goals have g5 : w.heap.size + 1 + 1 ≠ w3.heap.size := by omega
      all_goals have g6 : w.heap.size + 1 + 1 + 1 ≠ w3.heap.size := by omega
      all_goals have g7 : w2.heap.size ≠ w3.heap.size := by omega
      all_goals (have v0 := V6.c 0 rfl; have vf0 := V6.f 0 rfl; have v1 := V6.c 1 rfl; have vf1 := V6.f 1 rfl; have vl := V6.lt)
      all_goals have C7 := ((C6.setO (p := ⟨w3.heap.size, 0, none⟩) (by exact g5) (.bool s7)).setO (p := ⟨w3.heap.size, 1, none⟩) (by exact g5) (.slice o7 n7 c7))
      all_goals have D7 := ((D6'.setO (p := ⟨w3.heap.size, 0, none⟩) (by exact g6) (.bool s7)).setO (p := ⟨w3.heap.size, 1, none⟩) (by exact g6) (.slice o7 n7 c7))
      all_goals have U7 := ((U6.setO (p := ⟨w3.heap.size, 0, none⟩) (by exact g7) (.bool s7)).setO (p := ⟨w3.heap.size, 1, none⟩) (by exact g7) (.slice o7 n7 c7))
      all_goals have M7 := num_put M6 V6 (.bool s7) (.slice o7 n7 c7)
      all_goals have P7 := num_put N7 V6 (.bool s7) (.slice o7 n7 c7)
      all_goals have L7 := (L6.setCell (p := ⟨w3.heap.size, 0, none⟩) (by simp; omega) (.bool s7)).setCell (p := ⟨w3.heap.size, 1, none⟩) (by simp; omega) (.slice o7 n7 c7)
      all_goals obtain ⟨E1, E2⟩ := D6 hx0 hRp hyp
      all_goals rw [show (if True then Q else -Q) + 1 = x / y by rw [E1]; simp] at M7
      all_goals rw [show -R - y = x % y by rw [E2]] at P7
      all_goals have F := div_done (k := k) L7 M7 (num_more P7 (Nat.le_succ _)) C7 D7
      all_goals (have c0 := C7.c 0 rfl; have cf0 := C7.f 0 rfl; have c1 := C7.c 1 rfl; have cf1 := C7.f 1 rfl; have cl := C7.lt; have d0 := D7.c 0 rfl; have df0 := D7.f 0 rfl; have d1 := D7.c 1 rfl; have df1 := D7.f 1 rfl; have dl := D7.lt; have u0 := U7.c 0 rfl; have u1 := U7.c 1 rfl; have ul := U7.lt)
      all_goals clear C6 D6' V6 U6 M6 L6 C7 D7 U7 M7 P7 L7 N7 g1 g2 g3 g4 g5 g6 g7
      all_goals go_wp2
      all_goals go_region
      all_goals go_wp2
      all_goals refine bodyPost_ret (v := .tuple #[.agg #[.bool s6, .slice o6 n6 c6], .agg #[.bool s7, .slice o7 n7 c7]]) (by simp [results, Try.results147, go_sem, c0, c1, d0, d1]) rfl ?_
      all_goals exact div_drawn F
  · have hv := Bool.eq_false_iff.2 hv
    subst hv
    have hres : (if s = t then Q else -Q) = x / y ∧ (if s then -R else R) = x % y := by
      have hs := hs.out
      have ht := ht.out
      obtain ⟨D1, D2, D3, D4, -, -⟩ := DS
      by_cases hx0 : x < 0
      · have es : s = true := by rw [hs]; simp [hx0]
        have hR : R = 0 := by rw [es] at hneg; simp at hneg; omega
        by_cases hy1 : y < 0
        · have et : t = true := by rw [ht]; simp [hy1]
          obtain ⟨e1, e2⟩ := D4 hx0 hR hy1
          rw [e1, e2, es, et, hR]; simp
        · have et : t = false := by rw [ht]; simp [hy1]
          obtain ⟨e1, e2⟩ := D3 hx0 hR (by omega)
          rw [e1, e2, es, et, hR]; simp
      · have es : s = false := by rw [hs]; simp [hx0]
        by_cases hy1 : y < 0
        · have et : t = true := by rw [ht]; simp [hy1]
          obtain ⟨e1, e2⟩ := D2 (by omega) hy1
          rw [e1, e2, es, et]; simp
        · have et : t = false := by rw [ht]; simp [hy1]
          obtain ⟨e1, e2⟩ := D1 (by omega) (by omega)
          rw [e1, e2, es, et]; simp
    rw [hres.1] at NU3
    rw [hres.2] at NV3
    have F := div_alloc (div_done HB3' (num_more NU3 (Nat.add_le_add_left (by decide) k)) (num_more NV3 (Nat.add_le_add_left (by decide) k)) C3 D3) (.cells #[.bool false, .slice o3 n3 c3] 89)
    clear hres hneg DS NU NV NU3 NV3 C3 D3 HB3' A B C D U V HB4
    go_wp2
    go_region
    all_goals go_wp2
    all_goals refine bodyPost_ret (v := .tuple #[.agg #[.bool s2, .slice o2 n2 c2], .agg #[.bool false, .slice o3 n3 c3]]) (by simp [results, Try.results147, go_sem, World.cell?_alloc_past, c0, c1, d0, d1, cl, dl]) rfl ?_
    all_goals exact div_drawn F
end Go.Proofs.Ytmjlgmoohpnhfaa

/- Points: the model's numbers of a point, and whether it is right. -/
namespace Go.Proofs.Ytmjlgmoohpnhfaa
open Go.RowKit
end Go.Proofs.Ytmjlgmoohpnhfaa

/- Points: the model's word on whether one is right. -/
namespace Go.Proofs.Ytmjlgmoohpnhfaa
open Go.RowKit
end Go.Proofs.Ytmjlgmoohpnhfaa

/- Points in their order: the program's walks. -/
namespace Go.Proofs.Ytmjlgmoohpnhfaa
open Go.RowKit
end Go.Proofs.Ytmjlgmoohpnhfaa

/- Points in their order: the program's walks. -/
namespace Go.Proofs.Ytmjlgmoohpnhfaa
open Go.RowKit
theorem sm_lt {a : Int} (h : small a = true) : (a.natAbs : Int) ≤ 1208925819614629174706176 := by
  unfold small at h
  rw [decide_eq_true_iff] at h
  omega
theorem abs_mul {a b : Int} {m n : Nat} (ha : a.natAbs ≤ m) (hb : b.natAbs ≤ n) : (a * b).natAbs ≤ m * n := by
  rw [Int.natAbs_mul]
  exact Nat.mul_le_mul ha hb
theorem sm_prod {a b : Int} (ha : small a = true) (hb : small b = true) : (a * b).natAbs ≤ 1461501637330902918203684832716283019655932542976 := by
  have := abs_mul (show a.natAbs ≤ 1208925819614629174706176 by have := sm_lt ha; omega) (show b.natAbs ≤ 1208925819614629174706176 by have := sm_lt hb; omega)
  omega
theorem lr_abs {a : Int} (h : a.natAbs ≤ 3273390607896141870013189696827599152216642046043064789483291368096133796404674554883270092325904157150886684127560071009217256545885393053328527589376) : LR a := by
  unfold LR
  omega
theorem told_of {a : Int} (h : a.natAbs ≤ 1809251394333065553493296640760748560207343510400633813116524750123642650624) : told a = true := by
  unfold told
  apply decide_eq_true
  omega
theorem cmp_sub (a b : Int) : cmpI (a - b) 0 = cmpI a b := by
  rcases Int.lt_trichotomy a b with h | h | h
  · rw [cmpI_lt h, cmpI_lt (by omega)]
  · rw [cmpI_eq h, cmpI_eq (by omega)]
  · rw [cmpI_gt h, cmpI_gt (by omega)]
/-- The minor of four parts of right points. -/
theorem minor_sm (a b c d : Int) (ha : small a = true) (hb : small b = true) (hc : small c = true) (hd : small d = true) (w : World) : Calls Try.prog 145 #[W4 a, W4 b, W4 c, W4 d] w (VP (W4 (a * d - b * c)) w) := by
  have h1 := sm_prod ha hd
  have h2 := sm_prod hb hc
  exact minor_det a b c d (told_small ha) (told_small hb) (told_small hc) (told_small hd) (lr_abs (by omega)) (lr_abs (by omega)) (told_of (by omega)) w
theorem minor_abs {a b c d : Int} (ha : small a = true) (hb : small b = true) (hc : small c = true) (hd : small d = true) : (a * d - b * c).natAbs ≤ 2923003274661805836407369665432566039311865085952 := by
  have h1 := sm_prod ha hd
  have h2 := sm_prod hb hc
  omega
set_option maxRecDepth 100000 in
set_option maxHeartbeats 2000000 in
theorem byX_det (x y z u v t : Int) (sx : small x = true) (sz : small z = true) (su : small u = true) (st : small t = true) (w : World) : Calls Try.prog 103 #[PV x y z, PV u v t] w (VP (.int .i64 (cmpI (x * t) (u * z))) w) := by
  have T0 : ArgsB w ((w.alloc (.cells #[.int .u64 (ww3 x), .int .u64 (ww2 x), .int .u64 (ww1 x), .int .u64 (ww0 x), .int .u64 (ww3 y), .int .u64 (ww2 y), .int .u64 (ww1 y), .int .u64 (ww0 y), .int .u64 (ww3 z), .int .u64 (ww2 z), .int .u64 (ww1 z), .int .u64 (ww0 z)] 83)).alloc (.cells #[.int .u64 (ww3 u), .int .u64 (ww2 u), .int .u64 (ww1 u), .int .u64 (ww0 u), .int .u64 (ww3 v), .int .u64 (ww2 v), .int .u64 (ww1 v), .int .u64 (ww0 v), .int .u64 (ww3 t), .int .u64 (ww2 t), .int .u64 (ww1 t), .int .u64 (ww0 t)] 83)) [[.int .u64 (ww3 x), .int .u64 (ww2 x), .int .u64 (ww1 x), .int .u64 (ww0 x), .int .u64 (ww3 y), .int .u64 (ww2 y), .int .u64 (ww1 y), .int .u64 (ww0 y), .int .u64 (ww3 z), .int .u64 (ww2 z), .int .u64 (ww1 z), .int .u64 (ww0 z)], [.int .u64 (ww3 u), .int .u64 (ww2 u), .int .u64 (ww1 u), .int .u64 (ww0 u), .int .u64 (ww3 v), .int .u64 (ww2 v), .int .u64 (ww1 v), .int .u64 (ww0 v), .int .u64 (ww3 t), .int .u64 (ww2 t), .int .u64 (ww1 t), .int .u64 (ww0 t)]] := ar2 _ _ _ _ w
  have C1 := minor_sm x z u t sx sz su st
  have C2 := sign_det (x * t - z * u) (told_of (by have := minor_abs sx sz su st; omega))
  rw [cmp_sub, Int.mul_comm z u] at C2
  rw [Int.mul_comm z u] at C1
  clear sx su sz st
  go_enter Try.func103, Try.ntmps103
  go_wp2_with fail
  refine (C1 _).mono ?_
  rintro e w1 ⟨rfl, hB⟩
  replace T0 := T0.step hB
  clear hB
  go_wp2_with fail
  refine (C2 _).mono ?_
  rintro e w2 ⟨rfl, hB⟩
  have HB := (T0.step hB).below
  clear hB T0 C1 C2
  go_wp2
  go_ret
  exact ⟨rfl, HB⟩
set_option maxRecDepth 100000 in
set_option maxHeartbeats 2000000 in
theorem byY_det (x y z u v t : Int) (sy : small y = true) (sz : small z = true) (sv : small v = true) (st : small t = true) (w : World) : Calls Try.prog 104 #[PV x y z, PV u v t] w (VP (.int .i64 (cmpI (y * t) (v * z))) w) := by
  have T0 : ArgsB w ((w.alloc (.cells #[.int .u64 (ww3 x), .int .u64 (ww2 x), .int .u64 (ww1 x), .int .u64 (ww0 x), .int .u64 (ww3 y), .int .u64 (ww2 y), .int .u64 (ww1 y), .int .u64 (ww0 y), .int .u64 (ww3 z), .int .u64 (ww2 z), .int .u64 (ww1 z), .int .u64 (ww0 z)] 83)).alloc (.cells #[.int .u64 (ww3 u), .int .u64 (ww2 u), .int .u64 (ww1 u), .int .u64 (ww0 u), .int .u64 (ww3 v), .int .u64 (ww2 v), .int .u64 (ww1 v), .int .u64 (ww0 v), .int .u64 (ww3 t), .int .u64 (ww2 t), .int .u64 (ww1 t), .int .u64 (ww0 t)] 83)) [[.int .u64 (ww3 x), .int .u64 (ww2 x), .int .u64 (ww1 x), .int .u64 (ww0 x), .int .u64 (ww3 y), .int .u64 (ww2 y), .int .u64 (ww1 y), .int .u64 (ww0 y), .int .u64 (ww3 z), .int .u64 (ww2 z), .int .u64 (ww1 z), .int .u64 (ww0 z)], [.int .u64 (ww3 u), .int .u64 (ww2 u), .int .u64 (ww1 u), .int .u64 (ww0 u), .int .u64 (ww3 v), .int .u64 (ww2 v), .int .u64 (ww1 v), .int .u64 (ww0 v), .int .u64 (ww3 t), .int .u64 (ww2 t), .int .u64 (ww1 t), .int .u64 (ww0 t)]] := ar2 _ _ _ _ w
  have C1 := minor_sm y z v t sy sz sv st
  have C2 := sign_det (y * t - z * v) (told_of (by have := minor_abs sy sz sv st; omega))
  rw [cmp_sub, Int.mul_comm z v] at C2
  rw [Int.mul_comm z v] at C1
  clear sy sv sz st
  go_enter Try.func104, Try.ntmps104
  go_wp2_with fail
  refine (C1 _).mono ?_
  rintro e w1 ⟨rfl, hB⟩
  replace T0 := T0.step hB
  clear hB
  go_wp2_with fail
  refine (C2 _).mono ?_
  rintro e w2 ⟨rfl, hB⟩
  have HB := (T0.step hB).below
  clear hB T0 C1 C2
  go_wp2
  go_ret
  exact ⟨rfl, HB⟩
/-- The order of two points by their parts. -/
def ordI (x y z u v t : Int) : Int := if cmpI (x * t) (u * z) = 0 then cmpI (y * t) (v * z) else cmpI (x * t) (u * z)
end Go.Proofs.Ytmjlgmoohpnhfaa

/- Points in their order and their turns: the model's walks. -/
namespace Go.Proofs.Ytmjlgmoohpnhfaa
open Go.RowKit
theorem m2_cells {ps1 ps2 ps3 : Bool} {po1 po2 po3 : Option Addr} {pn1 pc1 pn2 pc2 pn3 pc3 : Nat} {qs1 qs2 qs3 : Bool} {qo1 qo2 qo3 : Option Addr} {qn1 qc1 qn2 qc2 qn3 qc3 : Nat} {w W : World} (T0 : ArgsB w W [[.bool ps1, .slice po1 pn1 pc1, .bool ps2, .slice po2 pn2 pc2, .bool ps3, .slice po3 pn3 pc3], [.bool qs1, .slice qo1 qn1 qc1, .bool qs2, .slice qo2 qn2 qc2, .bool qs3, .slice qo3 qn3 qc3]]) : (fun w' => w'.cell? ⟨w.heap.size, 0, none⟩ = some (.bool ps1) ∧ w'.cell? ⟨w.heap.size, 1, none⟩ = some (.slice po1 pn1 pc1) ∧ w'.cell? ⟨w.heap.size, 2, none⟩ = some (.bool ps2) ∧ w'.cell? ⟨w.heap.size, 3, none⟩ = some (.slice po2 pn2 pc2) ∧ w'.cell? ⟨w.heap.size, 4, none⟩ = some (.bool ps3) ∧ w'.cell? ⟨w.heap.size, 5, none⟩ = some (.slice po3 pn3 pc3) ∧ w'.cell? ⟨w.heap.size + 1, 0, none⟩ = some (.bool qs1) ∧ w'.cell? ⟨w.heap.size + 1, 1, none⟩ = some (.slice qo1 qn1 qc1) ∧ w'.cell? ⟨w.heap.size + 1, 2, none⟩ = some (.bool qs2) ∧ w'.cell? ⟨w.heap.size + 1, 3, none⟩ = some (.slice qo2 qn2 qc2) ∧ w'.cell? ⟨w.heap.size + 1, 4, none⟩ = some (.bool qs3) ∧ w'.cell? ⟨w.heap.size + 1, 5, none⟩ = some (.slice qo3 qn3 qc3)) W := ⟨(T0.b 0 rfl).c 0 rfl, (T0.b 0 rfl).c 1 rfl, (T0.b 0 rfl).c 2 rfl, (T0.b 0 rfl).c 3 rfl, (T0.b 0 rfl).c 4 rfl, (T0.b 0 rfl).c 5 rfl, (T0.b 1 rfl).c 0 rfl, (T0.b 1 rfl).c 1 rfl, (T0.b 1 rfl).c 2 rfl, (T0.b 1 rfl).c 3 rfl, (T0.b 1 rfl).c 4 rfl, (T0.b 1 rfl).c 5 rfl⟩
set_option maxRecDepth 100000 in
set_option maxHeartbeats 2000000 in
theorem l3CmpX_any (ps1 ps2 ps3 : Bool) (po1 po2 po3 : Option Addr) (pn1 pc1 pn2 pc2 pn3 pc3 : Nat) (qs1 qs2 qs3 : Bool) (qo1 qo2 qo3 : Option Addr) (qn1 qc1 qn2 qc2 qn3 qc3 : Nat) (pd1 pd3 qd1 qd3 : List Int) (x z u t : Int) (k : Nat) (hk : k ≤ 1000) (w : World) (Np1 : IsNum w ps1 po1 pn1 pc1 pd1 x k) (Np3 : IsNum w ps3 po3 pn3 pc3 pd3 z k) (Nq1 : IsNum w qs1 qo1 qn1 qc1 qd1 u k) (Nq3 : IsNum w qs3 qo3 qn3 qc3 qd3 t k) : Calls Try.prog 94 #[.agg #[.bool ps1, .slice po1 pn1 pc1, .bool ps2, .slice po2 pn2 pc2, .bool ps3, .slice po3 pn3 pc3], .agg #[.bool qs1, .slice qo1 qn1 qc1, .bool qs2, .slice qo2 qn2 qc2, .bool qs3, .slice qo3 qn3 qc3]] w (VP (.int .i64 (cmpI (x * t) (u * z))) w) := by
  have T0 : ArgsB w ((w.alloc (.cells #[.bool ps1, .slice po1 pn1 pc1, .bool ps2, .slice po2 pn2 pc2, .bool ps3, .slice po3 pn3 pc3] 91)).alloc (.cells #[.bool qs1, .slice qo1 qn1 qc1, .bool qs2, .slice qo2 qn2 qc2, .bool qs3, .slice qo3 qn3 qc3] 91)) [[.bool ps1, .slice po1 pn1 pc1, .bool ps2, .slice po2 pn2 pc2, .bool ps3, .slice po3 pn3 pc3], [.bool qs1, .slice qo1 qn1 qc1, .bool qs2, .slice qo2 qn2 qc2, .bool qs3, .slice qo3 qn3 qc3]] := ar2 _ _ _ _ w
  replace Np1 := (Np1.below T0.below).drew
  replace Np3 := (Np3.below T0.below).drew
  replace Nq1 := (Nq1.below T0.below).drew
  replace Nq3 := (Nq3.below T0.below).drew
  have tok1 : True := trivial
  go_enter Try.func94, Try.ntmps94
  go_upto_region 1 with fail
  generalize ((w.alloc (.cells #[.bool ps1, .slice po1 pn1 pc1, .bool ps2, .slice po2 pn2 pc2, .bool ps3, .slice po3 pn3 pc3] 91)).alloc (.cells #[.bool qs1, .slice qo1 qn1 qc1, .bool qs2, .slice qo2 qn2 qc2, .bool qs3, .slice qo3 qn3 qc3] 91)) = W at *
  go_region_held3 (fun w' => w'.cell? ⟨w.heap.size, 0, none⟩ = some (.bool ps1) ∧ w'.cell? ⟨w.heap.size, 1, none⟩ = some (.slice po1 pn1 pc1) ∧ w'.cell? ⟨w.heap.size, 2, none⟩ = some (.bool ps2) ∧ w'.cell? ⟨w.heap.size, 3, none⟩ = some (.slice po2 pn2 pc2) ∧ w'.cell? ⟨w.heap.size, 4, none⟩ = some (.bool ps3) ∧ w'.cell? ⟨w.heap.size, 5, none⟩ = some (.slice po3 pn3 pc3) ∧ w'.cell? ⟨w.heap.size + 1, 0, none⟩ = some (.bool qs1) ∧ w'.cell? ⟨w.heap.size + 1, 1, none⟩ = some (.slice qo1 qn1 qc1) ∧ w'.cell? ⟨w.heap.size + 1, 2, none⟩ = some (.bool qs2) ∧ w'.cell? ⟨w.heap.size + 1, 3, none⟩ = some (.slice qo2 qn2 qc2) ∧ w'.cell? ⟨w.heap.size + 1, 4, none⟩ = some (.bool qs3) ∧ w'.cell? ⟨w.heap.size + 1, 5, none⟩ = some (.slice qo3 qn3 qc3)) (first | (with_reducible exact m2_cells T0) | (with_reducible exact m2_cells T0.drew))
    (first
      | (go_at_call 109; have _t := tok1; refine (mul_any ps1 qs3 po1 qo3 pn1 qn3 pc1 qc3 (k) pd1 qd3 _ _ _ Np1 Nq3 (by omega)).mono ?_; rintro e w1 ⟨fs, fo, fn, fc, fd, rfl, Nf, hB⟩; (first | (have T1 := T0.step hB) | (have T1 := T0.drew.step hB)); clear T0; have T0 := T1; clear T1; replace Np3 := Np3.below hB; replace Nq1 := Nq1.below hB; clear hB tok1 _t)
      | (go_at_call 109; refine (mul_any qs1 ps3 qo1 po3 qn1 pn3 qc1 pc3 (k) qd1 pd3 _ _ _ Nq1 Np3 (by omega)).mono ?_; rintro e w2 ⟨gs, go, gn, gc, gd, rfl, Ng, hB⟩; (first | (have T1 := T0.step hB) | (have T1 := T0.drew.step hB)); clear T0; have T0 := T1; clear T1; replace Nf := Nf.below hB; clear hB)
      | (go_at_call 91; refine (cmp_any fs gs fo go fn gn fc gc (k + k) fd gd _ _ _ Nf Ng (by omega)).mono ?_; rintro e w3 ⟨rfl, hB⟩; (first | (have T1 := T0.step hB) | (have T1 := T0.drew.step hB)); clear T0; have T0 := T1; clear T1; clear hB))
  all_goals have HB := T0.below
  all_goals clear T0
  all_goals go_wp2
  all_goals go_ret
  all_goals exact ⟨rfl, by first | exact HB | exact HB.drew⟩
set_option maxRecDepth 100000 in
set_option maxHeartbeats 2000000 in
theorem l3CmpY_any (ps1 ps2 ps3 : Bool) (po1 po2 po3 : Option Addr) (pn1 pc1 pn2 pc2 pn3 pc3 : Nat) (qs1 qs2 qs3 : Bool) (qo1 qo2 qo3 : Option Addr) (qn1 qc1 qn2 qc2 qn3 qc3 : Nat) (pd2 pd3 qd2 qd3 : List Int) (y z v t : Int) (k : Nat) (hk : k ≤ 1000) (w : World) (Np2 : IsNum w ps2 po2 pn2 pc2 pd2 y k) (Np3 : IsNum w ps3 po3 pn3 pc3 pd3 z k) (Nq2 : IsNum w qs2 qo2 qn2 qc2 qd2 v k) (Nq3 : IsNum w qs3 qo3 qn3 qc3 qd3 t k) : Calls Try.prog 95 #[.agg #[.bool ps1, .slice po1 pn1 pc1, .bool ps2, .slice po2 pn2 pc2, .bool ps3, .slice po3 pn3 pc3], .agg #[.bool qs1, .slice qo1 qn1 qc1, .bool qs2, .slice qo2 qn2 qc2, .bool qs3, .slice qo3 qn3 qc3]] w (VP (.int .i64 (cmpI (y * t) (v * z))) w) := by
  have T0 : ArgsB w ((w.alloc (.cells #[.bool ps1, .slice po1 pn1 pc1, .bool ps2, .slice po2 pn2 pc2, .bool ps3, .slice po3 pn3 pc3] 91)).alloc (.cells #[.bool qs1, .slice qo1 qn1 qc1, .bool qs2, .slice qo2 qn2 qc2, .bool qs3, .slice qo3 qn3 qc3] 91)) [[.bool ps1, .slice po1 pn1 pc1, .bool ps2, .slice po2 pn2 pc2, .bool ps3, .slice po3 pn3 pc3], [.bool qs1, .slice qo1 qn1 qc1, .bool qs2, .slice qo2 qn2 qc2, .bool qs3, .slice qo3 qn3 qc3]] := ar2 _ _ _ _ w
  replace Np2 := (Np2.below T0.below).drew
  replace Np3 := (Np3.below T0.below).drew
  replace Nq2 := (Nq2.below T0.below).drew
  replace Nq3 := (Nq3.below T0.below).drew
  have tok1 : True := trivial
  go_enter Try.func95, Try.ntmps95
  go_upto_region 1 with fail
  generalize ((w.alloc (.cells #[.bool ps1, .slice po1 pn1 pc1, .bool ps2, .slice po2 pn2 pc2, .bool ps3, .slice po3 pn3 pc3] 91)).alloc (.cells #[.bool qs1, .slice qo1 qn1 qc1, .bool qs2, .slice qo2 qn2 qc2, .bool qs3, .slice qo3 qn3 qc3] 91)) = W at *
  go_region_held3 (fun w' => w'.cell? ⟨w.heap.size, 0, none⟩ = some (.bool ps1) ∧ w'.cell? ⟨w.heap.size, 1, none⟩ = some (.slice po1 pn1 pc1) ∧ w'.cell? ⟨w.heap.size, 2, none⟩ = some (.bool ps2) ∧ w'.cell? ⟨w.heap.size, 3, none⟩ = some (.slice po2 pn2 pc2) ∧ w'.cell? ⟨w.heap.size, 4, none⟩ = some (.bool ps3) ∧ w'.cell? ⟨w.heap.size, 5, none⟩ = some (.slice po3 pn3 pc3) ∧ w'.cell? ⟨w.heap.size + 1, 0, none⟩ = some (.bool qs1) ∧ w'.cell? ⟨w.heap.size + 1, 1, none⟩ = some (.slice qo1 qn1 qc1) ∧ w'.cell? ⟨w.heap.size + 1, 2, none⟩ = some (.bool qs2) ∧ w'.cell? ⟨w.heap.size + 1, 3, none⟩ = some (.slice qo2 qn2 qc2) ∧ w'.cell? ⟨w.heap.size + 1, 4, none⟩ = some (.bool qs3) ∧ w'.cell? ⟨w.heap.size + 1, 5, none⟩ = some (.slice qo3 qn3 qc3)) (first | (with_reducible exact m2_cells T0) | (with_reducible exact m2_cells T0.drew))
    (first
      | (go_at_call 109; have _t := tok1; refine (mul_any ps2 qs3 po2 qo3 pn2 qn3 pc2 qc3 (k) pd2 qd3 _ _ _ Np2 Nq3 (by omega)).mono ?_; rintro e w1 ⟨fs, fo, fn, fc, fd, rfl, Nf, hB⟩; (first | (have T1 := T0.step hB) | (have T1 := T0.drew.step hB)); clear T0; have T0 := T1; clear T1; replace Np3 := Np3.below hB; replace Nq2 := Nq2.below hB; clear hB tok1 _t)
      | (go_at_call 109; refine (mul_any qs2 ps3 qo2 po3 qn2 pn3 qc2 pc3 (k) qd2 pd3 _ _ _ Nq2 Np3 (by omega)).mono ?_; rintro e w2 ⟨gs, go, gn, gc, gd, rfl, Ng, hB⟩; (first | (have T1 := T0.step hB) | (have T1 := T0.drew.step hB)); clear T0; have T0 := T1; clear T1; replace Nf := Nf.below hB; clear hB)
      | (go_at_call 91; refine (cmp_any fs gs fo go fn gn fc gc (k + k) fd gd _ _ _ Nf Ng (by omega)).mono ?_; rintro e w3 ⟨rfl, hB⟩; (first | (have T1 := T0.step hB) | (have T1 := T0.drew.step hB)); clear T0; have T0 := T1; clear T1; clear hB))
  all_goals have HB := T0.below
  all_goals clear T0
  all_goals go_wp2
  all_goals go_ret
  all_goals exact ⟨rfl, by first | exact HB | exact HB.drew⟩
set_option maxRecDepth 100000 in
set_option maxHeartbeats 2000000 in
theorem l3Cmp_any (ps1 ps2 ps3 : Bool) (po1 po2 po3 : Option Addr) (pn1 pc1 pn2 pc2 pn3 pc3 : Nat) (qs1 qs2 qs3 : Bool) (qo1 qo2 qo3 : Option Addr) (qn1 qc1 qn2 qc2 qn3 qc3 : Nat) (pd1 pd2 pd3 qd1 qd2 qd3 : List Int) (x y z u v t : Int) (k : Nat) (hk : k ≤ 1000) (w : World) (Np1 : IsNum w ps1 po1 pn1 pc1 pd1 x k) (Np2 : IsNum w ps2 po2 pn2 pc2 pd2 y k) (Np3 : IsNum w ps3 po3 pn3 pc3 pd3 z k) (Nq1 : IsNum w qs1 qo1 qn1 qc1 qd1 u k) (Nq2 : IsNum w qs2 qo2 qn2 qc2 qd2 v k) (Nq3 : IsNum w qs3 qo3 qn3 qc3 qd3 t k) : Calls Try.prog 49 #[.agg #[.bool ps1, .slice po1 pn1 pc1, .bool ps2, .slice po2 pn2 pc2, .bool ps3, .slice po3 pn3 pc3], .agg #[.bool qs1, .slice qo1 qn1 qc1, .bool qs2, .slice qo2 qn2 qc2, .bool qs3, .slice qo3 qn3 qc3]] w (VP (.int .i64 (ordI x y z u v t)) w) := by
  have T0 : ArgsB w ((w.alloc (.cells #[.bool ps1, .slice po1 pn1 pc1, .bool ps2, .slice po2 pn2 pc2, .bool ps3, .slice po3 pn3 pc3] 91)).alloc (.cells #[.bool qs1, .slice qo1 qn1 qc1, .bool qs2, .slice qo2 qn2 qc2, .bool qs3, .slice qo3 qn3 qc3] 91)) [[.bool ps1, .slice po1 pn1 pc1, .bool ps2, .slice po2 pn2 pc2, .bool ps3, .slice po3 pn3 pc3], [.bool qs1, .slice qo1 qn1 qc1, .bool qs2, .slice qo2 qn2 qc2, .bool qs3, .slice qo3 qn3 qc3]] := ar2 _ _ _ _ w
  replace Np1 := Np1.below T0.below
  replace Np2 := Np2.below T0.below
  replace Np3 := Np3.below T0.below
  replace Nq1 := Nq1.below T0.below
  replace Nq2 := Nq2.below T0.below
  replace Nq3 := Nq3.below T0.below
  have HO : Hid (ordI x y z u v t = if cmpI (x * t) (u * z) = 0 then cmpI (y * t) (v * z) else cmpI (x * t) (u * z)) := rfl
  go_enter Try.func49, Try.ntmps49
  go_wp2_with fail
  generalize ((w.alloc (.cells #[.bool ps1, .slice po1 pn1 pc1, .bool ps2, .slice po2 pn2 pc2, .bool ps3, .slice po3 pn3 pc3] 91)).alloc (.cells #[.bool qs1, .slice qo1 qn1 qc1, .bool qs2, .slice qo2 qn2 qc2, .bool qs3, .slice qo3 qn3 qc3] 91)) = W at *
  refine (l3CmpX_any ps1 ps2 ps3 po1 po2 po3 pn1 pc1 pn2 pc2 pn3 pc3 qs1 qs2 qs3 qo1 qo2 qo3 qn1 qc1 qn2 qc2 qn3 qc3 pd1 pd3 qd1 qd3 x z u t k hk _ Np1 Np3 Nq1 Nq3).mono ?_
  rintro e w1 ⟨rfl, hB⟩
  replace T0 := T0.step hB
  replace Np1 := Np1.below hB
  replace Np2 := Np2.below hB
  replace Np3 := Np3.below hB
  replace Nq1 := Nq1.below hB
  replace Nq2 := Nq2.below hB
  replace Nq3 := Nq3.below hB
  clear hB
  generalize cmpI (x * t) (u * z) = a at *
  by_cases ha : a = 0
  · subst ha
    have X0 : Blk _ w.heap.size _ := T0.b 0 rfl; have Y0 : Blk _ (w.heap.size + 1) _ := T0.b 1 rfl; have p0 := X0.c 0 rfl; have q0 := Y0.c 0 rfl; have p1 := X0.c 1 rfl; have q1 := Y0.c 1 rfl; have p2 := X0.c 2 rfl; have q2 := Y0.c 2 rfl; have p3 := X0.c 3 rfl; have q3 := Y0.c 3 rfl; have p4 := X0.c 4 rfl; have q4 := Y0.c 4 rfl; have p5 := X0.c 5 rfl; have q5 := Y0.c 5 rfl; clear X0 Y0
    go_wp2_with fail
    refine (l3CmpY_any ps1 ps2 ps3 po1 po2 po3 pn1 pc1 pn2 pc2 pn3 pc3 qs1 qs2 qs3 qo1 qo2 qo3 qn1 qc1 qn2 qc2 qn3 qc3 pd2 pd3 qd2 qd3 y z v t k hk _ Np2 Np3 Nq2 Nq3).mono ?_
    rintro e w2 ⟨rfl, hB⟩
    have HB := (T0.step hB).below
    clear hB T0 p0 q0 p1 q1 p2 q2 p3 q3 p4 q4 p5 q5 Np1 Np2 Np3 Nq1 Nq2 Nq3
    go_wp2
    go_ret
    exact ⟨by rw [HO.out]; rfl, HB⟩
  · have ha' : (a == 0) = false := beq_eq_false_iff_ne.2 ha
    have HB := T0.below
    clear T0 Np1 Np2 Np3 Nq1 Nq2 Nq3
    go_wp2
    go_ret
    exact ⟨by rw [HO.out, if_neg ha]; rfl, HB⟩
end Go.Proofs.Ytmjlgmoohpnhfaa

/- Two numbers of digits laid behind the arguments; the model's tell of a number, its value known. -/
namespace Go.Proofs.Ytmjlgmoohpnhfaa
open Go.RowKit
theorem IsNum.step {w w' : World} {s : Bool} {ao : Option Addr} {n cap : Nat} {ds : List Int} {z : Int} {k : Nat} (h : IsNum w s ao n cap ds z k) (hb : Below w.heap.size w w') : IsNum w' s ao n cap ds z k := h.below hb
theorem IsNum.alloc {w : World} {s : Bool} {ao : Option Addr} {n cap : Nat} {ds : List Int} {z : Int} {k : Nat} (h : IsNum w s ao n cap ds z k) (o : Obj) : IsNum (w.alloc o) s ao n cap ds z k := h.below ((Below.refl _ _).alloc (Nat.le_refl _) o)
theorem ArgsB.set2 {w W : World} {vss : List (List Value)} (h : ArgsB w W vss) {g : Nat} (hg : w.heap.size + vss.length ≤ g) (v0 v1 : Value) : ArgsB w ((W.setCell ⟨g, 0, none⟩ v0).setCell ⟨g, 1, none⟩ v1) vss := (h.set (by exact hg) _).set (by exact hg) _
theorem Blk.set2 {W : World} {vs : List Value} {v0 v1 : Value} {g g' : Nat} (G : Blk W g' vs) (hg : g' ≠ g) : Blk ((W.setCell ⟨g, 0, none⟩ v0).setCell ⟨g, 1, none⟩ v1) g' vs := (G.setO (by exact hg) _).setO (by exact hg) _
theorem Blk.stored2 {W : World} {g : Nat} {z0 z1 : Value} (G : Blk W g [z0, z1]) (v0 v1 : Value) : Blk ((W.setCell ⟨g, 0, none⟩ v0).setCell ⟨g, 1, none⟩ v1) g [v0, v1] := (G.setI 0 (by simp) v0).setI 1 (by simp) v1
end Go.Proofs.Ytmjlgmoohpnhfaa
