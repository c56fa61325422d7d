/- Part 1 of the walks that the proof leans on. -/
import Derived.Test.YthelolpogdcmhaaRows
import Derived.WalkKit
import Derived.WalkSpells
import Derived.WalkLawsBesides
import Derived.Laws.Bits64b
import Derived.Deep.QuietTactic
import Derived.BigQuiet
import Derived.Laws.Externs
import Derived.Shelf.Spec.BitsCarry
import Derived.BigRegion
import Derived.Deep.CutBlock
import Derived.Deep.DeepCutAuto
import Derived.Deep.RegionWith
import Derived.Shelf.Bits.Mul64
import Derived.Deep.RegionHeld3
import Derived.Deep.LoopGhost
import Derived.WalkMore
import Derived.Deep.MidRow
import Derived.ProofKit
import Derived.Lib.SmallJoins
import Derived.Deep.Strs
import Derived.Deep.OwnRows
namespace Go.Proofs.Ythelolpogdcmhaa
open Go.RowKit
theorem ret_int {k : IntKind} {a b : Int} (h : b = a) : Ending.returned (.int k a) = .returned (.int k b) := by rw [h]
theorem one_cell (k : IntKind) (x : Int) : ∀ u ∈ [Value.int k x], u.oneCell' = true := by
 intro u hu
 simp only [List.mem_singleton] at hu
 subst hu; rfl
theorem bcell {W w1 : World} (hb : Below W.heap.size W w1) : (∀ b o, b < W.heap.size → w1.cell? ⟨b, o, none⟩ = W.cell? ⟨b, o, none⟩) ∧ (∀ b o, b < W.heap.size → w1.frozen? ⟨b, o, none⟩ = W.frozen? ⟨b, o, none⟩) :=
 ⟨fun b o h => hb.cell (p := ⟨b, o, none⟩) h, fun b o h => hb.frozen (p := ⟨b, o, none⟩) h⟩
def IntP (z : Int) (w : World) (e : Ending) (w' : World) : Prop := e = .returned (.int .i64 z) ∧ Below w.heap.size w w'
def Word (x : Int) : Prop := 0 ≤ x ∧ x < 18446744073709551616
def told (z : Int) : Bool := decide (-57896044618658097711785492504343953926634992332820282019728792003956564819968 ≤ z ∧ z < 57896044618658097711785492504343953926634992332820282019728792003956564819968)
def eight (ds : List Int) (k : Nat) : List Value := (List.range 8).map fun i => .int .u64 (if i < k then ds.getD i 0 else 0)
def val64 : List Int → Int
 | [] => 0
 | d :: t => d + 18446744073709551616 * val64 t
def Blk (W : World) (g : Nat) (vs : List Value) : Prop := g < W.heap.size ∧ ∀ i v, vs[i]? = some v → W.cell? ⟨g, i, none⟩ = some v ∧ W.frozen? ⟨g, i, none⟩ = false
theorem Blk.lt {W : World} {g : Nat} {vs : List Value} (h : Blk W g vs) : g < W.heap.size := h.1
theorem Blk.c {W : World} {g : Nat} {vs : List Value} (h : Blk W g vs) (i : Nat) {v : Value} (hi : vs[i]? = some v) : W.cell? ⟨g, i, none⟩ = some v := (h.2 i v hi).1
theorem Blk.f {W : World} {g : Nat} {vs : List Value} (h : Blk W g vs) (i : Nat) {v : Value} (hi : vs[i]? = some v) : W.frozen? ⟨g, i, none⟩ = false := (h.2 i v hi).2
theorem Blk.below {W W' : World} {B g : Nat} {vs : List Value} (h : Blk W g vs) (hB : Below B W W') (hg : g < B) : Blk W' g vs :=
 ⟨Nat.lt_of_lt_of_le h.1 hB.size, fun i _ hi => ⟨(hB.cell (p := ⟨g, i, none⟩) hg).trans (h.c i hi), (hB.frozen (p := ⟨g, i, none⟩) hg).trans (h.f i hi)⟩⟩
theorem Blk.step {W W' : World} {g : Nat} {vs : List Value} (h : Blk W g vs) (hB : Below W.heap.size W W') : Blk W' g vs := h.below hB h.1
theorem Blk.alloc {W : World} {g : Nat} {vs : List Value} (h : Blk W g vs) (o : Obj) : Blk (W.alloc o) g vs := h.step ((Below.refl W.heap.size W).alloc (Nat.le_refl _) o)
theorem Blk.drew {W : World} {g : Nat} {vs : List Value} (h : Blk W g vs) : Blk W.drew g vs := h
theorem Blk.new (W : World) (vs : List Value) (t : TypeId) {g : Nat} (hg : g = W.heap.size) : Blk (W.alloc (.cells vs.toArray t)) g vs := by
 subst hg
 refine ⟨by simp, fun i v hi => ⟨?_, by simp [go_sem]⟩⟩
 simp [go_sem, hi]
theorem Blk.setO {W : World} {g : Nat} {vs : List Value} (h : Blk W g vs) {p : Addr} (hne : g ≠ p.block) (u : Value) : Blk (W.setCell p u) g vs := by
 have hh : (W.setCell p u).heap[g]? = W.heap[g]? := Below.heap_setCell _ _ _ _ hne
 refine ⟨by simpa [World.setCell] using h.1, fun i v hi => ⟨?_, ?_⟩⟩
 · have := h.c i hi
   unfold World.cell? at *
   simpa [hh] using this
 · have := h.f i hi
   unfold World.frozen? at *
   simpa [hh] using this
theorem Blk.setI {W : World} {g : Nat} {vs : List Value} (h : Blk W g vs) (j : Nat) (hj : j < vs.length) (u : Value) : Blk (W.setCell ⟨g, j, none⟩ u) g (vs.set j u) := by
 refine ⟨by simpa [World.setCell] using h.1, fun i v hi => ?_⟩
 by_cases e : i = j
 · subst e
   have hv : v = u := by simpa [hj] using hi.symm
   subst hv
   exact ⟨by simp [go_sem, h.c i (List.getElem?_eq_getElem hj)], by simp [go_sem, h.f i (List.getElem?_eq_getElem hj)]⟩
 · have hi' : vs[i]? = some v := by simpa [List.getElem?_set, Ne.symm e] using hi
   exact ⟨(World.cell?_setCell_other _ _ _ _ (by simp)).trans (h.c i hi'), by simp [go_sem, h.f i hi']⟩
def ArgsB (w W : World) (vss : List (List Value)) : Prop := Below w.heap.size w W ∧ ∀ j vs, vss[j]? = some vs → Blk W (w.heap.size + j) vs
theorem ArgsB.below {w W : World} {vss : List (List Value)} (h : ArgsB w W vss) : Below w.heap.size w W := h.1
theorem ArgsB.b {w W : World} {vss : List (List Value)} (h : ArgsB w W vss) (j : Nat) {vs : List Value} (hj : vss[j]? = some vs) : Blk W (w.heap.size + j) vs := h.2 j vs hj
theorem ArgsB.step {w W W' : World} {vss : List (List Value)} (h : ArgsB w W vss) (hB : Below W.heap.size W W') : ArgsB w W' vss := ⟨h.1.trans (hB.mono h.1.size), fun j vs hj => (h.2 j vs hj).step hB⟩
theorem ArgsB.alloc {w W : World} {vss : List (List Value)} (h : ArgsB w W vss) (o : Obj) : ArgsB w (W.alloc o) vss := h.step ((Below.refl W.heap.size W).alloc (Nat.le_refl _) o)
theorem ArgsB.drew {w W : World} {vss : List (List Value)} (h : ArgsB w W vss) : ArgsB w W.drew vss := ⟨h.1.drew, h.2⟩
def agg (xs : List Int) : Value := .agg (xs.map (Value.int .u64)).toArray
def BoolP (b : Bool) (w : World) (e : Ending) (w' : World) : Prop := e = .returned (.bool b) ∧ Below w.heap.size w w'
open Go.RowKit Go.Shelf
def sl (x0 x1 x2 x3 x4 x5 x6 x7 : Int) : Int := val64 [x0, x1, x2, x3, x4, x5, x6, x7] - (if x7 < 9223372036854775808 then 0 else 13407807929942597099574024998205846127479365820592393377723561443721764030073546976801874298166903427690031858186486050853753882811946569946433649006084096)
def put (rs : List Int) (place : Nat) (zs : List Int) : List Int := rs.take place ++ (zs ++ rs.drop (place + zs.length))
structure Two (w W : World) (A0 A1 B0 B1 : Value) : Prop where
 a0 : W.cell? ⟨w.heap.size, 0, none⟩ = some A0
 a1 : W.cell? ⟨w.heap.size, 1, none⟩ = some A1
 b0 : W.cell? ⟨w.heap.size + 1, 0, none⟩ = some B0
 b1 : W.cell? ⟨w.heap.size + 1, 1, none⟩ = some B1
 r0 : W.cell? ⟨w.heap.size + 1 + 1, 0, none⟩ = some (.bool false)
 r1 : W.cell? ⟨w.heap.size + 1 + 1, 1, none⟩ = some (.slice none 0 0)
 f0 : W.frozen? ⟨w.heap.size + 1 + 1, 0, none⟩ = false
 f1 : W.frozen? ⟨w.heap.size + 1 + 1, 1, none⟩ = false
 sz : w.heap.size + 1 + 1 < W.heap.size
 below : Below w.heap.size w W
structure Wd (W : World) (g : Nat) (a3 a2 a1 a0 : Int) : Prop where
 c0 : W.cell? ⟨g, 0, none⟩ = some (.int .u64 a3)
 c1 : W.cell? ⟨g, 1, none⟩ = some (.int .u64 a2)
 c2 : W.cell? ⟨g, 2, none⟩ = some (.int .u64 a1)
 c3 : W.cell? ⟨g, 3, none⟩ = some (.int .u64 a0)
 f0 : W.frozen? ⟨g, 0, none⟩ = false
 f1 : W.frozen? ⟨g, 1, none⟩ = false
 f2 : W.frozen? ⟨g, 2, none⟩ = false
 f3 : W.frozen? ⟨g, 3, none⟩ = false
 lt : g < W.heap.size
def ww0 (z : Int) : Int := z % 18446744073709551616
def ww1 (z : Int) : Int := z / 18446744073709551616 % 18446744073709551616
def ww2 (z : Int) : Int := z / 340282366920938463463374607431768211456 % 18446744073709551616
def ww3 (z : Int) : Int := z / 6277101735386680763835789423207666416102355444464034512896 % 18446744073709551616
abbrev W4 (z : Int) : Value := .agg #[.int .u64 (ww3 z), .int .u64 (ww2 z), .int .u64 (ww1 z), .int .u64 (ww0 z)]
def VP (v : Value) (w : World) (e : Ending) (w' : World) : Prop := e = .returned v ∧ Below w.heap.size w w'
theorem ret_bool {a b : Bool} (h : b = a) : Ending.returned (.bool a) = .returned (.bool b) := by rw [h]
open Go.ChangeShapes Go.WideShapes Go.ChangeAt Go.RowKit Go.Joins
theorem Try.own : ownKnob Try.prog.godebug = none := by kernel_rfl
open Go.ChangeShapes Go.WideShapes Go.ChangeAt Go.RowKit Go.Joins
def SpotP (x y : Int) (w : World) (e : Ending) (w' : World) : Prop := e = .returned (.agg #[.int .i64 x, .int .i64 y]) ∧ Below w.heap.size w w'
theorem toSpot_any (x y : Int) (w : World) : Calls Try.prog 7 #[.agg #[.int .i64 x, .int .i64 y]] w (SpotP x y w) := by
 go_enter Try.func7, Try.ntmps7
 go_wp2
 refine bodyPost_ret (v := .agg #[.int .i64 x, .int .i64 y]) (by simp [results, Try.results7, go_sem]) rfl ?_
 exact ⟨rfl, (((Below.refl _ _).alloc (Nat.le_refl _) _).alloc (by simp) _).alloc (by simp; omega) _⟩
abbrev Sp (x y : Int) : Value := .agg #[.int .i64 x, .int .i64 y]
def spotOk (x y : Int) : Bool := decide (-1000000 ≤ x ∧ x ≤ 1000000 ∧ -1000000 ≤ y ∧ y ≤ 1000000)
theorem l1In_any (x a b : Int) (c : Bool) (hc : decide (a ≤ x ∧ x ≤ b) = c) (w : World) : Calls Try.prog 32 #[.int .i64 x, .int .i64 a, .int .i64 b] w (BoolP c w) := by
 go_enter Try.func32, Try.ntmps32
 go_wp2
 all_goals go_ret
 all_goals exact ⟨ret_bool (by subst hc; simp; try omega), Below.refl _ _⟩
theorem implSpotOk_any (x y : Int) (c : Bool) (hc : spotOk x y = c) (w : World) : Calls Try.prog 45 #[Sp x y] w (BoolP c w) := by
 go_enter Try.func45, Try.ntmps45
 go_wp2
 all_goals go_ret
 all_goals exact ⟨ret_bool (by subst hc; unfold spotOk; simp [*]; try omega), (Below.refl _ _).alloc (Nat.le_refl _) _⟩
theorem specSpotOk_any (x y : Int) (c : Bool) (hc : spotOk x y = c) (w : World) : Calls Try.prog 36 #[Sp x y] w (BoolP c w) := by
 by_cases hx : -1000000 ≤ x ∧ x ≤ 1000000
 · go_enter Try.func36, Try.ntmps36
   go_wp2_with fail
   refine (l1In_any _ _ _ true (by simpa using hx) _).mono ?_
   rintro e w1 ⟨rfl, hB⟩
   obtain ⟨hq, _⟩ := bcell hB
   have HB : Below w.heap.size w w1 := ((Below.refl _ _).alloc (Nat.le_refl _) _).trans (hB.mono (by simp))
   clear hB
   go_wp2_with fail
   refine (l1In_any _ _ _ c (by subst hc; unfold spotOk; simp [hx]) _).mono ?_
   rintro e w2 ⟨rfl, hB⟩
   go_wp2
   go_ret
   exact ⟨rfl, HB.trans (hB.mono HB.size)⟩
 · go_enter Try.func36, Try.ntmps36
   go_wp2_with fail
   refine (l1In_any _ _ _ false (by simpa using hx) _).mono ?_
   rintro e w1 ⟨rfl, hB⟩
   have HB : Below w.heap.size w w1 := ((Below.refl _ _).alloc (Nat.le_refl _) _).trans (hB.mono (by simp))
   clear hB
   go_wp2
   go_ret
   exact ⟨ret_bool (by subst hc; unfold spotOk; simp; omega), HB⟩
def lessI (x y u v : Int) : Bool := decide (x < u ∨ x = u ∧ y < v)
theorem l4Less_any (x y u v : Int) (c : Bool) (hc : lessI x y u v = c) (w : World) : Calls Try.prog 54 #[Sp x y, Sp u v] w (BoolP c w) := by
 go_enter Try.func54, Try.ntmps54
 go_wp2
 all_goals go_ret
 all_goals exact ⟨ret_bool (by subst hc; unfold lessI; simp [*]; try omega), ((Below.refl _ _).alloc (Nat.le_refl _) _).alloc (by simp) _⟩
theorem isAhead_any (x y u v : Int) (c : Bool) (hc : lessI x y u v = c) (w : World) : Calls Try.prog 78 #[Sp x y, Sp u v] w (BoolP c w) := by
 go_enter Try.func78, Try.ntmps78
 go_wp2
 all_goals go_ret
 all_goals exact ⟨ret_bool (by subst hc; unfold lessI; simp [*]; try omega), ((Below.refl _ _).alloc (Nat.le_refl _) _).alloc (by simp) _⟩
abbrev Sg (a b c d : Int) : Value := .agg #[.int .i64 a, .int .i64 b, .int .i64 c, .int .i64 d]
def SegP (a b c d : Int) (w : World) (e : Ending) (w' : World) : Prop := e = .returned (Sg a b c d) ∧ Below w.heap.size w w'
structure Quad (W : World) (g : Nat) (v0 v1 v2 v3 : Value) : Prop where
 c0 : W.cell? ⟨g, 0, none⟩ = some v0
 c1 : W.cell? ⟨g, 1, none⟩ = some v1
 c2 : W.cell? ⟨g, 2, none⟩ = some v2
 c3 : W.cell? ⟨g, 3, none⟩ = some v3
 f0 : W.frozen? ⟨g, 0, none⟩ = false
 f1 : W.frozen? ⟨g, 1, none⟩ = false
 f2 : W.frozen? ⟨g, 2, none⟩ = false
 f3 : W.frozen? ⟨g, 3, none⟩ = false
 lt : g < W.heap.size
theorem Quad.below {W W' : World} {B g : Nat} {v0 v1 v2 v3 : Value} (h : Quad W g v0 v1 v2 v3) (hB : Below B W W') (hg : g < B) : Quad W' g v0 v1 v2 v3 :=
 ⟨(hB.cell (p := ⟨g, 0, none⟩) hg).trans h.c0, (hB.cell (p := ⟨g, 1, none⟩) hg).trans h.c1, (hB.cell (p := ⟨g, 2, none⟩) hg).trans h.c2, (hB.cell (p := ⟨g, 3, none⟩) hg).trans h.c3,
  (hB.frozen (p := ⟨g, 0, none⟩) hg).trans h.f0, (hB.frozen (p := ⟨g, 1, none⟩) hg).trans h.f1, (hB.frozen (p := ⟨g, 2, none⟩) hg).trans h.f2, (hB.frozen (p := ⟨g, 3, none⟩) hg).trans h.f3, Nat.lt_of_lt_of_le h.lt hB.size⟩
theorem Quad.alloc {W : World} {g : Nat} {v0 v1 v2 v3 : Value} (h : Quad W g v0 v1 v2 v3) (o : Obj) : Quad (W.alloc o) g v0 v1 v2 v3 := h.below ((Below.refl W.heap.size W).alloc (Nat.le_refl _) o) h.lt
theorem Quad.new (W : World) (v0 v1 v2 v3 : Value) (t : TypeId) {g : Nat} (hg : g = W.heap.size) : Quad (W.alloc (.cells #[v0, v1, v2, v3] t)) g v0 v1 v2 v3 := by
 subst hg
 constructor <;> simp [go_sem]
set_option maxRecDepth 100000 in
set_option maxHeartbeats 400000 in
theorem toSeg_any (a b c d : Int) (w : World) : Calls Try.prog 56 #[Sg a b c d] w (SegP a b c d w) := by
 go_enter Try.func56, Try.ntmps56
 go_wp2_with fail
 refine (toSpot_any _ _ _).mono ?_
 rintro e w1 ⟨rfl, hB⟩
 have hz := hB.size
 have HB : Below w.heap.size w w1 := ((((Below.refl _ _).alloc (Nat.le_refl _) _).alloc (by simp) _).alloc (by simp; omega) _).trans (hB.mono (by simp; omega))
 have q0 : Quad w1 w.heap.size _ _ _ _ := (((Quad.new w (.int .i64 a) (.int .i64 b) (.int .i64 c) (.int .i64 d) _ rfl).alloc _).alloc _).below hB (by simp; omega)
 have q1 : Quad w1 (w.heap.size + 1) _ _ _ _ := ((Quad.new (w.alloc _) (.int .i64 0) (.int .i64 0) (.int .i64 0) (.int .i64 0) _ (by simp)).alloc _).below hB (by simp)
 have q2 : Quad w1 (w.heap.size + 1 + 1) _ _ _ _ := (Quad.new ((w.alloc _).alloc _) (.int .i64 0) (.int .i64 0) (.int .i64 0) (.int .i64 0) _ (by simp)).below hB (by simp)
 clear hB
 simp at hz
 obtain ⟨q00, q01, q02, q03, -, -, -, -, q08⟩ := id q0
 obtain ⟨q20, q21, q22, q23, q24, q25, q26, q27, q28⟩ := id q2
 go_wp2_with fail
 refine (toSpot_any _ _ _).mono ?_
 rintro e w2 ⟨rfl, hB⟩
 have HB2 : Below w.heap.size w w2 := ((HB.setCell (p := ⟨w.heap.size + 2, 0, none⟩) (by simp) _).setCell (p := ⟨w.heap.size + 2, 1, none⟩) (by simp) _).trans (hB.mono (by have := HB.size; simpa [World.setCell] using this))
 have r2 : Quad w2 (w.heap.size + 1 + 1) (.int .i64 a) (.int .i64 b) (.int .i64 0) (.int .i64 0) := Quad.below (by constructor <;> simp [go_sem, q20, q21, q22, q23, q24, q25, q26, q27]; try exact q28) hB (by simpa [World.setCell] using q28)
 have r1 : Quad w2 (w.heap.size + 1) (.int .i64 0) (.int .i64 0) (.int .i64 0) (.int .i64 0) := Quad.below (by constructor <;> simp [go_sem, q1.c0, q1.c1, q1.c2, q1.c3, q1.f0, q1.f1, q1.f2, q1.f3]; try exact q1.lt) hB (by simpa [World.setCell] using q1.lt)
 clear hB HB q0 q1 q2 q00 q01 q02 q03 q08 q20 q21 q22 q23 q24 q25 q26 q27 q28
 obtain ⟨q10, q11, q12, q13, q14, q15, q16, q17, q18⟩ := id r1
 obtain ⟨q20, q21, q22, q23, q24, q25, q26, q27, q28⟩ := id r2
 go_wp2
 refine bodyPost_ret (v := Sg a b c d) (by simp [results, Try.results56, go_sem, q10, q11, q12, q13]) rfl ?_
 refine ⟨rfl, ?_⟩
 repeat' (first | (refine Below.setCell ?_ (by simp; try omega) _))
 exact HB2
def segOk (a b c d : Int) : Bool := spotOk a b && spotOk c d && lessI a b c d
set_option maxRecDepth 100000 in
theorem specSegOk_any (a b c d : Int) (z : Bool) (hz : segOk a b c d = z) (w : World) : Calls Try.prog 33 #[Sg a b c d] w (BoolP z w) := by
 have HB0 : Below w.heap.size w (w.alloc (.cells #[.int .i64 a, .int .i64 b, .int .i64 c, .int .i64 d] 54)) := (Below.refl _ _).alloc (Nat.le_refl _) _
 by_cases hx : spotOk a b = true
 · by_cases hy : spotOk c d = true
   · go_enter Try.func33, Try.ntmps33
     go_wp2_with fail
     refine (specSpotOk_any _ _ true hx _).mono ?_
     rintro e w1 ⟨rfl, hB⟩
     have HB : Below w.heap.size w w1 := HB0.trans (hB.mono (by simp))
     have q0 : Quad w1 w.heap.size _ _ _ _ := (Quad.new w (.int .i64 a) (.int .i64 b) (.int .i64 c) (.int .i64 d) _ rfl).below hB (by simp)
     obtain ⟨q00, q01, q02, q03, -, -, -, -, q08⟩ := id q0
     clear hB
     go_wp2_with fail
     refine (specSpotOk_any _ _ true hy _).mono ?_
     rintro e w2 ⟨rfl, hB⟩
     have HB2 : Below w.heap.size w w2 := HB.trans (hB.mono HB.size)
     have q2 := q0.below hB q0.lt
     clear q00 q01 q02 q03 q08
     obtain ⟨q00, q01, q02, q03, -, -, -, -, q08⟩ := q2
     clear hB HB
     go_wp2_with fail
     refine (l4Less_any _ _ _ _ z (by rw [← hz]; simp [segOk, hx, hy]) _).mono ?_
     rintro e w3 ⟨rfl, hB⟩
     go_wp2
     go_ret
     exact ⟨rfl, HB2.trans (hB.mono HB2.size)⟩
   · have hy := Bool.eq_false_iff.2 hy
     go_enter Try.func33, Try.ntmps33
     go_wp2_with fail
     refine (specSpotOk_any _ _ true hx _).mono ?_
     rintro e w1 ⟨rfl, hB⟩
     have HB : Below w.heap.size w w1 := HB0.trans (hB.mono (by simp))
     have q0 : Quad w1 w.heap.size _ _ _ _ := (Quad.new w (.int .i64 a) (.int .i64 b) (.int .i64 c) (.int .i64 d) _ rfl).below hB (by simp)
     obtain ⟨q00, q01, q02, q03, -, -, -, -, q08⟩ := id q0
     clear hB
     go_wp2_with fail
     refine (specSpotOk_any _ _ false hy _).mono ?_
     rintro e w2 ⟨rfl, hB⟩
     have HB2 : Below w.heap.size w w2 := HB.trans (hB.mono HB.size)
     clear hB HB
     go_wp2
     go_ret
     exact ⟨ret_bool (by rw [← hz]; simp [segOk, hx, hy]), HB2⟩
 · have hx := Bool.eq_false_iff.2 hx
   go_enter Try.func33, Try.ntmps33
   go_wp2_with fail
   refine (specSpotOk_any _ _ false hx _).mono ?_
   rintro e w1 ⟨rfl, hB⟩
   have HB : Below w.heap.size w w1 := HB0.trans (hB.mono (by simp))
   clear hB
   go_wp2
   go_ret
   exact ⟨ret_bool (by rw [← hz]; simp [segOk, hx]), HB⟩
set_option maxRecDepth 100000 in
theorem implSegOk_any (a b c d : Int) (z : Bool) (hz : segOk a b c d = z) (w : World) : Calls Try.prog 59 #[Sg a b c d] w (BoolP z w) := by
 have HB0 : Below w.heap.size w (w.alloc (.cells #[.int .i64 a, .int .i64 b, .int .i64 c, .int .i64 d] 54)) := (Below.refl _ _).alloc (Nat.le_refl _) _
 by_cases hx : spotOk a b = true
 · by_cases hy : spotOk c d = true
   · go_enter Try.func59, Try.ntmps59
     go_wp2_with fail
     refine (implSpotOk_any _ _ true hx _).mono ?_
     rintro e w1 ⟨rfl, hB⟩
     have HB : Below w.heap.size w w1 := HB0.trans (hB.mono (by simp))
     have q0 : Quad w1 w.heap.size _ _ _ _ := (Quad.new w (.int .i64 a) (.int .i64 b) (.int .i64 c) (.int .i64 d) _ rfl).below hB (by simp)
     obtain ⟨q00, q01, q02, q03, -, -, -, -, q08⟩ := id q0
     clear hB
     go_wp2_with fail
     refine (implSpotOk_any _ _ true hy _).mono ?_
     rintro e w2 ⟨rfl, hB⟩
     have HB2 : Below w.heap.size w w2 := HB.trans (hB.mono HB.size)
     have q2 := q0.below hB q0.lt
     clear q00 q01 q02 q03 q08
     obtain ⟨q00, q01, q02, q03, -, -, -, -, q08⟩ := q2
     clear hB HB
     go_wp2_with fail
     refine (isAhead_any _ _ _ _ z (by rw [← hz]; simp [segOk, hx, hy]) _).mono ?_
     rintro e w3 ⟨rfl, hB⟩
     go_wp2
     go_ret
     exact ⟨rfl, HB2.trans (hB.mono HB2.size)⟩
   · have hy := Bool.eq_false_iff.2 hy
     go_enter Try.func59, Try.ntmps59
     go_wp2_with fail
     refine (implSpotOk_any _ _ true hx _).mono ?_
     rintro e w1 ⟨rfl, hB⟩
     have HB : Below w.heap.size w w1 := HB0.trans (hB.mono (by simp))
     have q0 : Quad w1 w.heap.size _ _ _ _ := (Quad.new w (.int .i64 a) (.int .i64 b) (.int .i64 c) (.int .i64 d) _ rfl).below hB (by simp)
     obtain ⟨q00, q01, q02, q03, -, -, -, -, q08⟩ := id q0
     clear hB
     go_wp2_with fail
     refine (implSpotOk_any _ _ false hy _).mono ?_
     rintro e w2 ⟨rfl, hB⟩
     have HB2 : Below w.heap.size w w2 := HB.trans (hB.mono HB.size)
     clear hB HB
     go_wp2
     go_ret
     exact ⟨ret_bool (by rw [← hz]; simp [segOk, hx, hy]), HB2⟩
 · have hx := Bool.eq_false_iff.2 hx
   go_enter Try.func59, Try.ntmps59
   go_wp2_with fail
   refine (implSpotOk_any _ _ false hx _).mono ?_
   rintro e w1 ⟨rfl, hB⟩
   have HB : Below w.heap.size w w1 := HB0.trans (hB.mono (by simp))
   clear hB
   go_wp2
   go_ret
   exact ⟨ret_bool (by rw [← hz]; simp [segOk, hx]), HB⟩
theorem eqSpot_same (x y : Int) (w : World) : Calls Try.prog 90 #[Sp x y, Sp x y] w (BoolP true w) := by
 go_enter Try.func90, Try.ntmps90
 go_wp2
 go_ret
 exact ⟨rfl, ((Below.refl _ _).alloc (Nat.le_refl _) _).alloc (by simp) _⟩
set_option maxRecDepth 100000 in
theorem eqSeg_same (a b c d : Int) (w : World) : Calls Try.prog 77 #[Sg a b c d, Sg a b c d] w (BoolP true w) := by
 have B0 := (Blk.new w [.int .i64 a, .int .i64 b, .int .i64 c, .int .i64 d] 54 rfl).alloc (.cells #[.int .i64 a, .int .i64 b, .int .i64 c, .int .i64 d] 54)
 have B1 := Blk.new (w.alloc (.cells #[.int .i64 a, .int .i64 b, .int .i64 c, .int .i64 d] 54)) [.int .i64 a, .int .i64 b, .int .i64 c, .int .i64 d] 54 (g := w.heap.size + 1) (by simp)
 have HB0 := ((Below.refl _ w).alloc (Nat.le_refl _) (.cells #[.int .i64 a, .int .i64 b, .int .i64 c, .int .i64 d] 54)).alloc (by simp) (.cells #[.int .i64 a, .int .i64 b, .int .i64 c, .int .i64 d] 54)
 go_enter Try.func77, Try.ntmps77
 go_wp2_with fail
 refine (eqSpot_same _ _ _).mono ?_
 rintro e w1 ⟨rfl, hB⟩
 replace B0 := B0.step hB; replace B1 := B1.step hB
 have HB : Below w.heap.size w w1 := HB0.trans (hB.mono HB0.size)
 clear hB HB0
 have p2 := B0.c 2 rfl; have p3 := B0.c 3 rfl; have q2 := B1.c 2 rfl; have q3 := B1.c 3 rfl
 go_wp2_with fail
 refine (eqSpot_same _ _ _).mono ?_
 rintro e w2 ⟨rfl, hB⟩
 have HB2 : Below w.heap.size w w2 := HB.trans (hB.mono HB.size)
 clear hB HB
 go_wp2
 go_ret
 exact ⟨rfl, HB2⟩
theorem row_step {w w' : World} {g n : Nat} {T : TypeId} {f : Nat → Value} (h : w.rowIs g T n f) (hB : Below w.heap.size w w') : w'.rowIs g T n f := h.of_block (hB.block g h.lt)
def NoIn (w : World) (ao : Option Addr) (n : Nat) (x : Nat → Int) : Prop :=
 ∀ i, i < n → ∃ A off, ao = some ⟨A, off, none⟩ ∧ A < w.heap.size ∧ w.cell? ⟨A, off + i, none⟩ = some (.int .i64 (x i))
theorem NoIn.step {w w' : World} {ao : Option Addr} {n : Nat} {x : Nat → Int} (h : NoIn w ao n x) (hB : Below w.heap.size w w') : NoIn w' ao n x := fun i hi => by
 obtain ⟨A, off, e, hA, hc⟩ := h i hi
 exact ⟨A, off, e, Nat.lt_of_lt_of_le hA hB.size, (hB.cell (p := ⟨A, off + i, none⟩) hA).trans hc⟩
theorem noIn_row {w : World} {g n : Nat} {T : TypeId} {x : Nat → Int} (h : w.rowIs g T n (fun i => .int .i64 (x i))) : NoIn w (some ⟨g, 0, none⟩) n x := fun i hi =>
 ⟨g, 0, rfl, h.lt, by rw [Nat.zero_add]; exact h.cell hi⟩
theorem Try.infoNo : (Try.prog.info? 2).map (fun i => (i.zero, i.size, i.bytes)) = some (some (.int .i64 0), 1, 8) := by kernel_rfl
theorem make_nos (n : Nat) (hn : n ≤ 1048576) (w : World) : (Instr.makeSlice 29 (.int .i64 (n : Int)) (.int .i64 (n : Int))).run Try.prog w = .ok (.slice (some ⟨w.heap.size, 0, none⟩) n n) (w.alloc (.cells (madeCells #[.int .i64 0] n) 2)) := by
 obtain ⟨i, hi, hzz⟩ := Option.map_eq_some_iff.1 Try.infoNo
 simp only [Prod.mk.injEq] at hzz
 obtain ⟨hz, hs, hb⟩ := hzz
 have hr := run_make (P := Try.prog) w 29 2 i (.int .i64 0) Try.underlying29 hi hz .i64 .i64 n n (by omega) (Int.le_refl _) (by rw [hb]; omega) (by omega)
 simp only [Int.toNat_natCast, hs, Value.cells, Nat.mul_one] at hr
 exact hr
def cpI (x : Nat → Int) (c : Nat) (i : Nat) : Value := .int .i64 (if i < c then x i else 0)
set_option maxRecDepth 100000 in
set_option maxHeartbeats 2000000 in
theorem toNoS_any (ao : Option Addr) (n cap : Nat) (x : Nat → Int) (hn : n ≤ 1048576) (w : World) (hS : NoIn w ao n x) : Calls Try.prog 57 #[.slice ao n cap] w (fun e w' => ∃ g, e = .returned (.slice (some ⟨g, 0, none⟩) n n) ∧ w.heap.size ≤ g ∧ w'.rowIs g 2 n (fun i => .int .i64 (x i)) ∧ Below w.heap.size w w') := by
 have MK := make_nos n hn
 have HS : Hid (NoIn w ao n x) := hS
 clear hS
 go_enter Try.func57, Try.ntmps57
 go_wp2_with fail
 have R0 := World.rowIs_made w (.int .i64 0) n 2
 have B0 : Below w.heap.size w (w.alloc (.cells (madeCells #[.int .i64 0] n) 2)) := (Below.refl _ _).alloc (Nat.le_refl _) _
 generalize w.alloc (.cells (madeCells #[.int .i64 0] n) 2) = W1 at *
 have hnI : (n : Int) ≤ 1048576 := by omega
 clear MK
 go_loopw [4] (fun i wr => ∃ c : Nat, c ≤ n ∧ i = .int .i64 c ∧ wr.rowIs w.heap.size 2 n (cpI x c) ∧ Below w.heap.size w wr) (fun i _ => n - (intOf i).toNat)
 case atStart => exact ⟨0, by omega, rfl, R0.congr (fun i _ => by unfold cpI; simp), B0⟩
 case round =>
   clear R0 B0
   obtain ⟨c, hc, rfl, R, HB⟩ := hrel
   by_cases hcn : c < n
   · obtain ⟨A, off, rfl, hA, q0⟩ := HS.out.step HB c hcn
     have hcI : (c : Int) < n := by omega
     have o0 := R.cell (i := c) (by omega); have f0 := R.frozen c
     have RN : (wr.setCell ⟨w.heap.size, c, none⟩ (.int .i64 (x c))).rowIs w.heap.size 2 n (cpI x (c + 1)) := (R.set c _).congr (fun i hi => by
       unfold cpI
       by_cases h : i = c
       · subst h; simp
       · rcases Nat.lt_or_ge i c with h' | h'
         · rw [if_neg h, if_pos h', if_pos (by omega)]
         · rw [if_neg h, if_neg (by omega), if_neg (by omega)])
     have HN : Below w.heap.size w (wr.setCell ⟨w.heap.size, c, none⟩ (.int .i64 (x c))) := Below.setCell HB (Nat.le_refl _) _
     clear R HB hA
     go_wp2
     all_goals go_roundw
     case rel => exact ⟨c + 1, by omega, by go_num, RN, HN⟩
     case measure => simp [intOf]; omega
   · obtain rfl : c = n := by omega
     have RN : wr.rowIs w.heap.size 2 c (fun i => .int .i64 (x i)) := R.congr (fun i hi => by unfold cpI; rw [if_pos hi])
     clear R HS
     go_wp2
     go_ret
     exact ⟨_, rfl, Nat.le_refl _, RN, HB⟩
set_option maxRecDepth 100000 in
set_option maxHeartbeats 2000000 in
theorem eqNoS_any (ao bo : Option Addr) (n ca cb : Nat) (x : Nat → Int) (hn : n ≤ 1048576) (w : World) (hA : NoIn w ao n x) (hC : NoIn w bo n x) : Calls Try.prog 9 #[.slice ao n ca, .slice bo n cb] w (BoolP true w) := by
 have HA : Hid (NoIn w ao n x) := hA
 have HC : Hid (NoIn w bo n x) := hC
 have hnI : (n : Int) ≤ 1048576 := by omega
 clear hA hC
 go_enter Try.func9, Try.ntmps9
 go_wp2_with fail
 go_loopw [5] (fun i wr => ∃ c : Nat, c ≤ n ∧ i = .int .i64 c ∧ Below w.heap.size w wr) (fun i _ => n - (intOf i).toNat)
 case atStart => exact ⟨0, by omega, rfl, Below.refl _ _⟩
 case round =>
   obtain ⟨c, hc, rfl, HB⟩ := hrel
   by_cases hcn : c < n
   · obtain ⟨A, off, rfl, hA, q0⟩ := HA.out.step HB c hcn
     obtain ⟨B, of2, rfl, hB', r0⟩ := HC.out.step HB c hcn
     have hcI : (c : Int) < n := by omega
     have KS : (fun w' => w'.cell? ⟨A, off + c, none⟩ = some (.int .i64 (x c)) ∧ w'.cell? ⟨B, of2 + c, none⟩ = some (.int .i64 (x c))) wr := ⟨q0, r0⟩
     have hxx : (x c == x c) = true := by simp
     go_wp2_with fail
     go_region_held3 (fun w' => w'.cell? ⟨A, off + c, none⟩ = some (.int .i64 (x c)) ∧ w'.cell? ⟨B, of2 + c, none⟩ = some (.int .i64 (x c))) (exact KS)
       (first | fail)
     all_goals clear KS q0 r0
     all_goals go_wp2
     all_goals go_roundw
     all_goals first | exact ⟨c + 1, by omega, by go_num, HB⟩ | exact ⟨c + 1, by omega, by go_num, HB.drew⟩ | (simp [intOf]; omega)
   · obtain rfl : c = n := by omega
     clear HA HC
     go_wp2
     go_ret
     exact ⟨rfl, HB⟩
def NoOwn (w : World) (base : Nat) (v : Value) (L : List Int) : Prop :=
 (v = .slice none 0 0 ∧ L = []) ∨ ∃ g cap f, v = .slice (some ⟨g, 0, none⟩) L.length cap ∧ base ≤ g ∧ L.length ≤ cap ∧ w.rowIs g 2 cap f ∧ ∀ i, i < L.length → f i = .int .i64 (L.getD i 0)
theorem NoOwn.step {w w' : World} {base : Nat} {v : Value} {L : List Int} (h : NoOwn w base v L) (hB : Below w.heap.size w w') : NoOwn w' base v L := by
 rcases h with h | ⟨g, cap, f, h1, h2, h3, h4, h5⟩
 · exact .inl h
 · exact .inr ⟨g, cap, f, h1, h2, h3, row_step h4 hB, h5⟩
theorem NoOwn.of {w : World} {base : Nat} {v : Value} {L : List Int} (h : w.ownsRow base 2 1 v L.length (L.map (Value.int .i64))) : NoOwn w base v L := by
 rcases h.2 with ⟨h1, h2⟩ | ⟨g, cap, cur, h1, h2, h3, h4, h5, h6, h7⟩
 · exact .inl ⟨h1, List.length_eq_zero_iff.1 h2⟩
 · refine .inr ⟨g, cap, fun i => cur.getD i undef, h1, h2, h4, ⟨cur, h3, by omega, fun i hi => ?_⟩, fun i hi => ?_⟩
   · simp [Array.getD_eq_getD_getElem?, show i < cur.size by omega]
   · have e : (cur.toList.take (L.length * 1))[i]? = (L.map (Value.int .i64))[i]? := by rw [h7]
     rw [List.getElem?_take_of_lt (by omega), List.getElem?_map, List.getElem?_eq_getElem hi] at e
     simp only [Array.getElem?_toList, Option.map_some] at e
     show cur.getD i undef = _
     rw [Array.getD_eq_getD_getElem?, e]
     simp [List.getD_eq_getElem?_getD, hi]
theorem NoOwn.in {w : World} {base : Nat} {v : Value} {L : List Int} (h : NoOwn w base v L) : ∃ ao cap, v = .slice ao L.length cap ∧ NoIn w ao L.length (fun i => L.getD i 0) := by
 rcases h with ⟨h1, h2⟩ | ⟨g, cap, f, h1, h2, h3, h4, h5⟩
 · subst h2
   exact ⟨none, 0, h1, fun i hi => by simp at hi⟩
 · exact ⟨some ⟨g, 0, none⟩, cap, h1, fun i hi => ⟨g, 0, rfl, h4.lt, by rw [Nat.zero_add, h4.cell (by omega), h5 i hi]⟩⟩
def OtherB (h : Option Nat) (w w' : World) : Prop :=
 (∀ g, some g ≠ h → g < w.heap.size → w'.heap[g]? = w.heap[g]?) ∧ w.heap.size ≤ w'.heap.size ∧ ∀ w0 : World, (∀ g, h = some g → w0.heap.size ≤ g) → Below w0.heap.size w0 w → Below w0.heap.size w0 w'
theorem OtherB.row {h : Option Nat} {w w' : World} (k : OtherB h w w') {g n : Nat} {T : TypeId} {f : Nat → Value} (hne : some g ≠ h) (r : w.rowIs g T n f) : w'.rowIs g T n f := r.of_block (k.1 g hne r.lt)
theorem OtherB.own {h : Option Nat} {w w' : World} (k : OtherB h w w') {base : Nat} {v : Value} {L : List Int} (r : NoOwn w base v L) (hne : ∀ g, v.ownBlock = some g → some g ≠ h) : NoOwn w' base v L := by
 rcases r with r | ⟨g, cap, f, h1, h2, h3, h4, h5⟩
 · exact .inl r
 · exact .inr ⟨g, cap, f, h1, h2, h3, k.row (hne g (by subst h1; rfl)) h4, h5⟩
theorem OtherB.blk {h : Option Nat} {w w' : World} (k : OtherB h w w') {g : Nat} {vs : List Value} (hne : some g ≠ h) (r : Blk w g vs) : Blk w' g vs := by
 refine ⟨Nat.lt_of_lt_of_le r.lt k.2.1, fun i v hi => ⟨?_, ?_⟩⟩
 · have := r.c i hi
   unfold World.cell? at this ⊢
   simp only [k.1 g hne r.lt]
   exact this
 · have := r.f i hi
   unfold World.frozen? at this ⊢
   simp only [k.1 g hne r.lt]
   exact this
theorem OtherB.refl (h : Option Nat) (w : World) : OtherB h w w := ⟨fun _ _ _ => rfl, Nat.le_refl _, fun _ _ H => H⟩
theorem OtherB.set {h : Nat} {w w' : World} (k : OtherB (some h) w w') (i : Nat) (v : Value) : OtherB (some h) w (w'.setCell ⟨h, i, none⟩ v) := by
 refine ⟨fun g hne hg => ?_, by simpa [World.setCell] using k.2.1, fun w0 hb H => (k.2.2 w0 hb H).setCell (by exact hb h rfl) _⟩
 rw [Below.heap_setCell _ _ _ _ (fun e => hne (congrArg some e))]
 exact k.1 g hne hg
def mkL (n : Nat) : List Int := (List.range n).map fun (i : Nat) => ((i : Int) + 1)
theorem mkL_len (n : Nat) : (mkL n).length = n := by simp [mkL]
theorem mkL_at {n i : Nat} (h : i < n) : (mkL n).getD i 0 = (i : Int) + 1 := by simp [mkL, List.getD_eq_getElem?_getD, h]
def mkF (f : Nat → Value) (c : Nat) (i : Nat) : Value := if i < c then .int .i64 ((i : Int) + 1) else f i
set_option maxRecDepth 100000 in
set_option maxHeartbeats 2000000 in
theorem markNoS_any (v : Value) (L : List Int) (base : Nat) (hn : L.length ≤ 1048576) (w : World) (hO : NoOwn w base v L) : Calls Try.prog 12 #[v, .int .i64 1] w (fun e w' => e = .returned (.int .i64 ((L.length : Int) + 1)) ∧ NoOwn w' base v (mkL L.length) ∧ OtherB v.ownBlock w w') := by
 rcases hO with ⟨rfl, rfl⟩ | ⟨g, cap, f, rfl, hg, hc, R, hf⟩
 · go_enter Try.func12, Try.ntmps12
   go_wp2_with fail
   go_loopw [1, 5] (fun o i wr => o = .int .i64 1 ∧ i = .int .i64 0 ∧ wr = w) (fun _ i _ => 0)
   case atStart => exact ⟨rfl, rfl, rfl⟩
   case round =>
     obtain ⟨rfl, rfl, rfl⟩ := hrel
     go_wp2
     go_ret
     exact ⟨rfl, .inl ⟨rfl, rfl⟩, OtherB.refl _ _⟩
 · generalize hn' : L.length = n at *
   have HR : Hid (w.rowIs g 2 cap f) := R
   clear R hf hn'
   have hnI : (n : Int) ≤ 1048576 := by omega
   go_enter Try.func12, Try.ntmps12
   go_wp2_with fail
   go_loopw [1, 5] (fun o i wr => ∃ c : Nat, c ≤ n ∧ o = .int .i64 ((c : Int) + 1) ∧ i = .int .i64 c ∧ wr.rowIs g 2 cap (mkF f c) ∧ OtherB (some g) w wr) (fun _ i _ => n - (intOf i).toNat)
   case atStart => exact ⟨0, by omega, rfl, rfl, HR.out.congr (fun i _ => by unfold mkF; simp), OtherB.refl _ _⟩
   case round =>
     obtain ⟨c, hcn, rfl, rfl, R, K⟩ := hrel
     by_cases hlt : c < n
     · have hcI : (c : Int) < n := by omega
       have o0 := R.cell (i := c) (by omega)
       have f0 := R.frozen c
       have RN : (wr.setCell ⟨g, c, none⟩ (.int .i64 ((c : Int) + 1))).rowIs g 2 cap (mkF f (c + 1)) := (R.set c (.int .i64 ((c : Int) + 1))).congr (fun i _ => by
         unfold mkF
         by_cases e : i = c
         · subst e; simp
         · simp only [e, if_false]
           by_cases e2 : i < c
           · rw [if_pos e2, if_pos (by omega)]
           · rw [if_neg e2, if_neg (by omega)])
       have KN := K.set c (.int .i64 ((c : Int) + 1))
       clear R K
       go_wp2
       go_roundw
       case rel => exact ⟨c + 1, by omega, by go_num, by go_num, RN, KN⟩
       case measure => simp [intOf]; omega
     · obtain rfl : c = n := by omega
       go_wp2
       go_ret
       exact ⟨rfl, .inr ⟨g, cap, mkF f c, by rw [mkL_len], hg, by rw [mkL_len]; exact hc, R, fun i hi => by rw [mkL_len] at hi; rw [mkL_at hi]; unfold mkF; rw [if_pos hi]⟩, K⟩
set_option maxRecDepth 100000 in
set_option maxHeartbeats 2000000 in
theorem heldNoS_any (v : Value) (n : Nat) (base : Nat) (hn : n ≤ 1048576) (w : World) (hO : NoOwn w base v (mkL n)) : Calls Try.prog 13 #[v, .int .i64 1] w (VP (.int .i64 ((n : Int) + 1)) w) := by
 obtain ⟨ao, cap, rfl, HI⟩ := hO.in
 rw [mkL_len] at HI
 rw [mkL_len]
 have HR : Hid (NoIn w ao n (fun i => (mkL n).getD i 0)) := HI
 clear HI hO
 have hnI : (n : Int) ≤ 1048576 := by omega
 go_enter Try.func13, Try.ntmps13
 go_wp2_with fail
 go_loopw [1, 5] (fun o i wr => ∃ c : Nat, c ≤ n ∧ o = .int .i64 ((c : Int) + 1) ∧ i = .int .i64 c ∧ Below w.heap.size w wr) (fun _ i _ => n - (intOf i).toNat)
 case atStart => exact ⟨0, by omega, rfl, rfl, Below.refl _ _⟩
 case round =>
   obtain ⟨c, hcn, rfl, rfl, HB⟩ := hrel
   by_cases hlt : c < n
   · have hcI : (c : Int) < n := by omega
     obtain ⟨A, off, rfl, hA, hcell0⟩ := HR.out.step HB c hlt
     have hcell : wr.cell? ⟨A, off + c, none⟩ = some (.int .i64 ((c : Int) + 1)) := by rw [← mkL_at hlt]; exact hcell0
     clear hcell0
     go_wp2
     go_roundw
     case rel => exact ⟨c + 1, by omega, by go_num, by go_num, HB⟩
     case measure => simp [intOf]; omega
   · obtain rfl : c = n := by omega
     go_wp2
     go_ret
     exact ⟨rfl, HB⟩
def In6 (x : Int) : Prop := -1048576 ≤ x ∧ x ≤ 1048576
theorem mul_inS {p q M N : Int} (h1 : -M ≤ p) (h2 : p ≤ M) (h3 : -N ≤ q) (h4 : q ≤ N) : -(M * N) ≤ p * q ∧ p * q ≤ M * N := by
 have hM : 0 ≤ M := by omega
 have hN : 0 ≤ N := by omega
 have a1 : 0 ≤ (M - p) * (N - q) := Int.mul_nonneg (by omega) (by omega)
 have a2 : 0 ≤ (M + p) * (N + q) := Int.mul_nonneg (by omega) (by omega)
 have a3 : 0 ≤ (M - p) * (N + q) := Int.mul_nonneg (by omega) (by omega)
 have a4 : 0 ≤ (M + p) * (N - q) := Int.mul_nonneg (by omega) (by omega)
 constructor <;> grind
theorem minusSp_any (x y u v : Int) (hx : In6 x) (hy : In6 y) (hu : In6 u) (hv : In6 v) (w : World) : Calls Try.prog 92 #[Sp x y, Sp u v] w (SpotP (x - u) (y - v) w) := by
 obtain ⟨x1, x2⟩ := hx; obtain ⟨y1, y2⟩ := hy; obtain ⟨u1, u2⟩ := hu; obtain ⟨v1, v2⟩ := hv
 go_enter Try.func92, Try.ntmps92
 go_wp2
 refine bodyPost_ret (v := Sp (x - u) (y - v)) (by simp [results, Try.results92, go_sem]) rfl ?_
 exact ⟨rfl, (((Below.refl _ _).alloc (Nat.le_refl _) _).alloc (by simp) _).alloc (by simp; omega) _⟩
theorem crossSp_any (x y u v p q : Int) (hp : x * v = p) (hq : y * u = q) (hpb : -4398046511104 ≤ p ∧ p ≤ 4398046511104) (hqb : -4398046511104 ≤ q ∧ q ≤ 4398046511104) (w : World) : Calls Try.prog 93 #[Sp x y, Sp u v] w (IntP (p - q) w) := by
 obtain ⟨p1, p2⟩ := hpb; obtain ⟨q1, q2⟩ := hqb
 go_enter Try.func93, Try.ntmps93
 go_wp2
 go_ret
 exact ⟨rfl, ((Below.refl _ _).alloc (Nat.le_refl _) _).alloc (by simp) _⟩
def turnSp (a b c d x y : Int) : Int := (c - a) * (y - b) - (d - b) * (x - a)
def sgnSp (z : Int) : Int := if z < 0 then -1 else if 0 < z then 1 else 0
set_option maxRecDepth 100000 in
theorem l4Turn_any (a b c d x y : Int) (ha : In6 a) (hb : In6 b) (hc : In6 c) (hd : In6 d) (hx : In6 x) (hy : In6 y) (w : World) :
   Calls Try.prog 37 #[Sp a b, Sp c d, Sp x y] w (IntP (sgnSp (turnSp a b c d x y)) w) := by
 have HR : turnSp a b c d x y = (c - a) * (y - b) - (d - b) * (x - a) := rfl
 obtain ⟨a1, a2⟩ := ha; obtain ⟨b1, b2⟩ := hb; obtain ⟨c1, c2⟩ := hc; obtain ⟨d1, d2⟩ := hd; obtain ⟨x1, x2⟩ := hx; obtain ⟨y1, y2⟩ := hy
 obtain ⟨p1, p2⟩ := mul_inS (p := c - a) (q := y - b) (M := 2097152) (N := 2097152) (by omega) (by omega) (by omega) (by omega)
 obtain ⟨q1, q2⟩ := mul_inS (p := d - b) (q := x - a) (M := 2097152) (N := 2097152) (by omega) (by omega) (by omega) (by omega)
 obtain ⟨p, hp⟩ : ∃ p, (c - a) * (y - b) = p := ⟨_, rfl⟩
 obtain ⟨q, hq⟩ : ∃ q, (d - b) * (x - a) = q := ⟨_, rfl⟩
 rw [hp] at p1 p2 HR
 rw [hq] at q1 q2 HR
 rw [HR]
 clear HR
 go_enter Try.func37, Try.ntmps37
 go_wp2
 all_goals go_ret
 all_goals exact ⟨ret_int (by unfold sgnSp; split <;> (try split) <;> omega), (((Below.refl _ _).alloc (Nat.le_refl _) _).alloc (by simp) _).alloc (by simp; omega) _⟩
theorem turnTo_cells {a b c d x y : Int} {w W : World} (h : ArgsB w W [[.int .i64 a, .int .i64 b, .int .i64 c, .int .i64 d], [.int .i64 x, .int .i64 y]]) : (fun w' => w'.cell? ⟨w.heap.size, 0, none⟩ = some (.int .i64 a) ∧ w'.cell? ⟨w.heap.size, 1, none⟩ = some (.int .i64 b) ∧ w'.cell? ⟨w.heap.size, 2, none⟩ = some (.int .i64 c) ∧ w'.cell? ⟨w.heap.size, 3, none⟩ = some (.int .i64 d) ∧ w'.cell? ⟨w.heap.size + 1, 0, none⟩ = some (.int .i64 x) ∧ w'.cell? ⟨w.heap.size + 1, 1, none⟩ = some (.int .i64 y)) W :=
 ⟨(h.b 0 rfl).c 0 rfl, (h.b 0 rfl).c 1 rfl, (h.b 0 rfl).c 2 rfl, (h.b 0 rfl).c 3 rfl, (h.b 1 rfl).c 0 rfl, (h.b 1 rfl).c 1 rfl⟩
theorem turnTo_start (a b c d x y : Int) (w : World) : ArgsB w ((w.alloc (.cells #[.int .i64 a, .int .i64 b, .int .i64 c, .int .i64 d] 54)).alloc (.cells #[.int .i64 x, .int .i64 y] 37)) [[.int .i64 a, .int .i64 b, .int .i64 c, .int .i64 d], [.int .i64 x, .int .i64 y]] := by
 refine ⟨((Below.refl _ _).alloc (Nat.le_refl _) _).alloc (by simp) _, fun j vs hj => ?_⟩
 match j, hj with
 | 0, hj => cases hj; exact (Blk.new w [.int .i64 a, .int .i64 b, .int .i64 c, .int .i64 d] 54 rfl).alloc _
 | 1, hj => cases hj; exact Blk.new (w.alloc (.cells #[.int .i64 a, .int .i64 b, .int .i64 c, .int .i64 d] 54)) [.int .i64 x, .int .i64 y] 37 (by simp)
 | j + 2, hj => simp at hj
set_option maxRecDepth 100000 in
set_option maxHeartbeats 1000000 in
theorem turnTo_any (a b c d x y : Int) (ha : In6 a) (hb : In6 b) (hc : In6 c) (hd : In6 d) (hx : In6 x) (hy : In6 y) (w : World) :
   Calls Try.prog 83 #[Sg a b c d, Sp x y] w (IntP (turnSp a b c d x y) w) := by
 have HP : -4398046511104 ≤ (c - a) * (y - b) ∧ (c - a) * (y - b) ≤ 4398046511104 := mul_inS (M := 2097152) (N := 2097152) (by have := ha.1; have := ha.2; have := hc.1; have := hc.2; omega) (by have := ha.1; have := ha.2; have := hc.1; have := hc.2; omega) (by have := hb.1; have := hb.2; have := hy.1; have := hy.2; omega) (by have := hb.1; have := hb.2; have := hy.1; have := hy.2; omega)
 have HQ : -4398046511104 ≤ (d - b) * (x - a) ∧ (d - b) * (x - a) ≤ 4398046511104 := mul_inS (M := 2097152) (N := 2097152) (by have := hb.1; have := hb.2; have := hd.1; have := hd.2; omega) (by have := hb.1; have := hb.2; have := hd.1; have := hd.2; omega) (by have := ha.1; have := ha.2; have := hx.1; have := hx.2; omega) (by have := ha.1; have := ha.2; have := hx.1; have := hx.2; omega)
 have T0 := turnTo_start a b c d x y w
 have tok1 : True := trivial
 go_enter Try.func83, Try.ntmps83
 go_upto_region 1 with fail
 generalize ((w.alloc (.cells #[.int .i64 a, .int .i64 b, .int .i64 c, .int .i64 d] 54)).alloc (.cells #[.int .i64 x, .int .i64 y] 37)) = W at *
 go_region_held3 (fun w' => w'.cell? ⟨w.heap.size, 0, none⟩ = some (.int .i64 a) ∧ w'.cell? ⟨w.heap.size, 1, none⟩ = some (.int .i64 b) ∧ w'.cell? ⟨w.heap.size, 2, none⟩ = some (.int .i64 c) ∧ w'.cell? ⟨w.heap.size, 3, none⟩ = some (.int .i64 d) ∧ w'.cell? ⟨w.heap.size + 1, 0, none⟩ = some (.int .i64 x) ∧ w'.cell? ⟨w.heap.size + 1, 1, none⟩ = some (.int .i64 y)) (first | (with_reducible exact turnTo_cells T0) | (with_reducible exact turnTo_cells T0.drew))
   (first
     | (go_at_call 92; have _t := tok1; refine (minusSp_any c d a b hc hd ha hb _).mono ?_; rintro e w1 ⟨rfl, hB⟩; (first | (have T1 := T0.step hB) | (have T1 := T0.drew.step hB)); clear T0; have T0 := T1; clear T1; clear hB tok1 _t)
     | (go_at_call 92; refine (minusSp_any x y a b hx hy ha hb _).mono ?_; rintro e w2 ⟨rfl, hB⟩; (first | (have T1 := T0.step hB) | (have T1 := T0.drew.step hB)); clear T0; have T0 := T1; clear T1; clear hB)
     | (go_at_call 93; refine (crossSp_any (c - a) (d - b) (x - a) (y - b) _ _ rfl rfl HP HQ _).mono ?_; rintro e w3 ⟨rfl, hB⟩; (first | (have T1 := T0.step hB) | (have T1 := T0.drew.step hB)); clear T0; have T0 := T1; clear T1; clear hB))
 all_goals go_wp2
 all_goals go_ret
 all_goals first | exact ⟨rfl, T0.below⟩ | exact ⟨rfl, T0.drew.below⟩
structure PartI (w wr : World) (g : Nat) (sg sl : List Value) : Prop where
 below : Below w.heap.size w wr
 seg : Blk wr w.heap.size sg
 row : Blk wr g sl
theorem PartI.step {w wr wr' : World} {g : Nat} {sg sl : List Value} (h : PartI w wr g sg sl) (hB : Below wr.heap.size wr wr') : PartI w wr' g sg sl := ⟨h.below.trans (hB.mono h.below.size), h.seg.step hB, h.row.step hB⟩
theorem PartI.alloc {w wr : World} {g : Nat} {sg sl : List Value} (h : PartI w wr g sg sl) (o : Obj) : PartI w (wr.alloc o) g sg sl := h.step ((Below.refl _ _).alloc (Nat.le_refl _) o)
def lefts (ts : List Int) (k : Nat) : Bool := (ts.take k).any (fun t => decide (0 ≤ t))
def rights (ts : List Int) (k : Nat) : Bool := (ts.take k).any (fun t => decide (t ≤ 0))
theorem lefts_succ (ts : List Int) (k : Nat) (t : Int) (h : ts[k]? = some t) : lefts ts (k + 1) = (lefts ts k || decide (0 ≤ t)) := by
 unfold lefts
 rw [List.take_add_one, h]
 simp
theorem rights_succ (ts : List Int) (k : Nat) (t : Int) (h : ts[k]? = some t) : rights ts (k + 1) = (rights ts k || decide (t ≤ 0)) := by
 unfold rights
 rw [List.take_add_one, h]
 simp
set_option maxRecDepth 100000 in
set_option maxHeartbeats 2000000 in
theorem parts_any (a b c d x0 y0 x1 y1 x2 y2 x3 y3 : Int) (ha : In6 a) (hb : In6 b) (hc : In6 c) (hd : In6 d) (hx0 : In6 x0) (hy0 : In6 y0) (hx1 : In6 x1) (hy1 : In6 y1) (hx2 : In6 x2) (hy2 : In6 y2) (hx3 : In6 x3) (hy3 : In6 y3) (g : Nat) (w : World) (hS : Blk w g [.int .i64 x0, .int .i64 y0, .int .i64 x1, .int .i64 y1, .int .i64 x2, .int .i64 y2, .int .i64 x3, .int .i64 y3]) :
   Calls Try.prog 65 #[Sg a b c d, .slice (some ⟨g, 0, none⟩) 4 4] w (BoolP (lefts [turnSp a b c d x0 y0, turnSp a b c d x1 y1, turnSp a b c d x2 y2, turnSp a b c d x3 y3] 4 && rights [turnSp a b c d x0 y0, turnSp a b c d x1 y1, turnSp a b c d x2 y2, turnSp a b c d x3 y3] 4) w) := by
 obtain ⟨ts, hts⟩ : ∃ ts, [turnSp a b c d x0 y0, turnSp a b c d x1 y1, turnSp a b c d x2 y2, turnSp a b c d x3 y3] = ts := ⟨_, rfl⟩
 rw [hts]
 have I0 : PartI w (w.alloc (.cells #[.int .i64 a, .int .i64 b, .int .i64 c, .int .i64 d] 54)) g [.int .i64 a, .int .i64 b, .int .i64 c, .int .i64 d] [.int .i64 x0, .int .i64 y0, .int .i64 x1, .int .i64 y1, .int .i64 x2, .int .i64 y2, .int .i64 x3, .int .i64 y3] :=
   ⟨(Below.refl _ _).alloc (Nat.le_refl _) _, Blk.new w [.int .i64 a, .int .i64 b, .int .i64 c, .int .i64 d] 54 rfl, hS.alloc _⟩
 go_enter Try.func65, Try.ntmps65
 go_wp2
 generalize (w.alloc (.cells #[.int .i64 a, .int .i64 b, .int .i64 c, .int .i64 d] 54)) = W at *
 go_loopw [5, 6, 12] (fun l r i wr => ∃ k : Nat, k ≤ 4 ∧ i = .int .i64 k ∧ l = .bool (lefts ts k) ∧ r = .bool (rights ts k) ∧ PartI w wr g [.int .i64 a, .int .i64 b, .int .i64 c, .int .i64 d] [.int .i64 x0, .int .i64 y0, .int .i64 x1, .int .i64 y1, .int .i64 x2, .int .i64 y2, .int .i64 x3, .int .i64 y3]) (fun _ _ i _ => 4 - (intOf i).toNat)
 case atStart => exact ⟨0, by omega, rfl, rfl, rfl, I0⟩
 case round =>
   clear I0
   obtain ⟨k, hk, rfl, rfl, rfl, I0⟩ := hrel
   have ca0 := I0.seg.c 0 rfl; have ca1 := I0.seg.c 1 rfl; have ca2 := I0.seg.c 2 rfl; have ca3 := I0.seg.c 3 rfl; have calt := I0.seg.lt
   rcases (by omega : k = 0 ∨ k = 1 ∨ k = 2 ∨ k = 3 ∨ k = 4) with rfl | rfl | rfl | rfl | rfl
   · have e1 := I0.row.c 0 rfl; have e2 := I0.row.c 1 rfl
     have K1 := lefts_succ ts 0 (turnSp a b c d x0 y0) (by rw [← hts]; rfl)
     have K2 := rights_succ ts 0 (turnSp a b c d x0 y0) (by rw [← hts]; rfl)
     obtain ⟨L, hL⟩ : ∃ L, lefts ts 0 = L := ⟨_, rfl⟩
     obtain ⟨R, hR⟩ : ∃ R, rights ts 0 = R := ⟨_, rfl⟩
     rw [hL] at K1 ⊢; rw [hR] at K2 ⊢
     clear hL hR hts hS
     go_wp2_with fail
     refine (turnTo_any a b c d x0 y0 ha hb hc hd hx0 hy0 _).mono ?_
     rintro e w1 ⟨rfl, hB⟩
     replace I0 := (I0.alloc _).step hB
     clear ca0 ca1 ca2 ca3 calt e1 e2 hB
     generalize turnSp a b c d x0 y0 = t at *
     cases L <;> cases R
     all_goals go_wp2
     all_goals go_roundw
     all_goals first | exact ⟨0 + 1, by omega, rfl, by rw [K1]; simp, by rw [K2]; simp, I0⟩ | simp [intOf]
   · have e1 := I0.row.c 2 rfl; have e2 := I0.row.c 3 rfl
     have K1 := lefts_succ ts 1 (turnSp a b c d x1 y1) (by rw [← hts]; rfl)
     have K2 := rights_succ ts 1 (turnSp a b c d x1 y1) (by rw [← hts]; rfl)
     obtain ⟨L, hL⟩ : ∃ L, lefts ts 1 = L := ⟨_, rfl⟩
     obtain ⟨R, hR⟩ : ∃ R, rights ts 1 = R := ⟨_, rfl⟩
     rw [hL] at K1 ⊢; rw [hR] at K2 ⊢
     clear hL hR hts hS
     go_wp2_with fail
     refine (turnTo_any a b c d x1 y1 ha hb hc hd hx1 hy1 _).mono ?_
     rintro e w1 ⟨rfl, hB⟩
     replace I0 := (I0.alloc _).step hB
     clear ca0 ca1 ca2 ca3 calt e1 e2 hB
     generalize turnSp a b c d x1 y1 = t at *
     cases L <;> cases R
     all_goals go_wp2
     all_goals go_roundw
     all_goals first | exact ⟨1 + 1, by omega, rfl, by rw [K1]; simp, by rw [K2]; simp, I0⟩ | simp [intOf]
   · have e1 := I0.row.c 4 rfl; have e2 := I0.row.c 5 rfl
     have K1 := lefts_succ ts 2 (turnSp a b c d x2 y2) (by rw [← hts]; rfl)
     have K2 := rights_succ ts 2 (turnSp a b c d x2 y2) (by rw [← hts]; rfl)
     obtain ⟨L, hL⟩ : ∃ L, lefts ts 2 = L := ⟨_, rfl⟩
     obtain ⟨R, hR⟩ : ∃ R, rights ts 2 = R := ⟨_, rfl⟩
     rw [hL] at K1 ⊢; rw [hR] at K2 ⊢
     clear hL hR hts hS
     go_wp2_with fail
     refine (turnTo_any a b c d x2 y2 ha hb hc hd hx2 hy2 _).mono ?_
     rintro e w1 ⟨rfl, hB⟩
     replace I0 := (I0.alloc _).step hB
     clear ca0 ca1 ca2 ca3 calt e1 e2 hB
     generalize turnSp a b c d x2 y2 = t at *
     cases L <;> cases R
     all_goals go_wp2
     all_goals go_roundw
     all_goals first | exact ⟨2 + 1, by omega, rfl, by rw [K1]; simp, by rw [K2]; simp, I0⟩ | simp [intOf]
   · have e1 := I0.row.c 6 rfl; have e2 := I0.row.c 7 rfl
     have K1 := lefts_succ ts 3 (turnSp a b c d x3 y3) (by rw [← hts]; rfl)
     have K2 := rights_succ ts 3 (turnSp a b c d x3 y3) (by rw [← hts]; rfl)
     obtain ⟨L, hL⟩ : ∃ L, lefts ts 3 = L := ⟨_, rfl⟩
     obtain ⟨R, hR⟩ : ∃ R, rights ts 3 = R := ⟨_, rfl⟩
     rw [hL] at K1 ⊢; rw [hR] at K2 ⊢
     clear hL hR hts hS
     go_wp2_with fail
     refine (turnTo_any a b c d x3 y3 ha hb hc hd hx3 hy3 _).mono ?_
     rintro e w1 ⟨rfl, hB⟩
     replace I0 := (I0.alloc _).step hB
     clear ca0 ca1 ca2 ca3 calt e1 e2 hB
     generalize turnSp a b c d x3 y3 = t at *
     cases L <;> cases R
     all_goals go_wp2
     all_goals go_roundw
     all_goals first | exact ⟨3 + 1, by omega, rfl, by rw [K1]; simp, by rw [K2]; simp, I0⟩ | simp [intOf]
   · obtain ⟨L, hL⟩ : ∃ L, lefts ts 4 = L := ⟨_, rfl⟩
     obtain ⟨R, hR⟩ : ∃ R, rights ts 4 = R := ⟨_, rfl⟩
     rw [hL, hR]
     clear hts hS
     cases L <;> cases R
     all_goals go_wp2
     all_goals go_ret
     all_goals exact ⟨ret_bool (by rw [hL, hR]; rfl), I0.below⟩
def boxOut (a b c d x y u v : Int) : Bool := decide (c < x ∨ u < a ∨ (b < y ∧ d < y) ∨ (v < b ∧ v < d))
def ups (ts : List Int) (k : Nat) : Nat := (ts.take k).countP (fun t => decide (0 < t))
def downs (ts : List Int) (k : Nat) : Nat := (ts.take k).countP (fun t => decide (t < 0))
theorem ups_succ (ts : List Int) (k : Nat) (t : Int) (h : ts[k]? = some t) : ups ts (k + 1) = ups ts k + (if 0 < t then 1 else 0) := by
 unfold ups
 rw [List.take_add_one, h]
 simp [List.countP_append, List.countP_cons]
theorem downs_succ (ts : List Int) (k : Nat) (t : Int) (h : ts[k]? = some t) : downs ts (k + 1) = downs ts k + (if t < 0 then 1 else 0) := by
 unfold downs
 rw [List.take_add_one, h]
 simp [List.countP_append, List.countP_cons]
theorem ups_le (ts : List Int) (k : Nat) : ups ts k ≤ k := by
 unfold ups
 exact Nat.le_trans List.countP_le_length (by simp; omega)
theorem downs_le (ts : List Int) (k : Nat) : downs ts k ≤ k := by
 unfold downs
 exact Nat.le_trans List.countP_le_length (by simp; omega)
theorem ups_four (p q r s : Int) : decide (ups [p, q, r, s] 4 < 4) = rights [p, q, r, s] 4 := by
 unfold ups rights
 by_cases h0 : 0 < p <;> by_cases h1 : 0 < q <;> by_cases h2 : 0 < r <;> by_cases h3 : 0 < s <;> simp [h0, h1, h2, h3] <;> omega
theorem downs_four (p q r s : Int) : decide (downs [p, q, r, s] 4 < 4) = lefts [p, q, r, s] 4 := by
 unfold downs lefts
 by_cases h0 : p < 0 <;> by_cases h1 : q < 0 <;> by_cases h2 : r < 0 <;> by_cases h3 : s < 0 <;> simp [h0, h1, h2, h3] <;> omega
theorem box_start (a b c d x y u v : Int) (w : World) (t1 t2 t3 : TypeId) : ArgsB w (((w.alloc (.cells #[.int .i64 a, .int .i64 b, .int .i64 c, .int .i64 d] t1)).alloc (.cells #[.int .i64 x, .int .i64 y] t2)).alloc (.cells #[.int .i64 u, .int .i64 v] t3)) [[.int .i64 a, .int .i64 b, .int .i64 c, .int .i64 d], [.int .i64 x, .int .i64 y], [.int .i64 u, .int .i64 v]] := by
 refine ⟨(((Below.refl _ _).alloc (Nat.le_refl _) _).alloc (by simp) _).alloc (by simp; omega) _, fun j vs hj => ?_⟩
 match j, hj with
 | 0, hj => cases hj; exact ((Blk.new w [.int .i64 a, .int .i64 b, .int .i64 c, .int .i64 d] t1 rfl).alloc _).alloc _
 | 1, hj => cases hj; exact (Blk.new (w.alloc (.cells #[.int .i64 a, .int .i64 b, .int .i64 c, .int .i64 d] t1)) [.int .i64 x, .int .i64 y] t2 (by simp)).alloc _
 | 2, hj => cases hj; exact Blk.new ((w.alloc (.cells #[.int .i64 a, .int .i64 b, .int .i64 c, .int .i64 d] t1)).alloc (.cells #[.int .i64 x, .int .i64 y] t2)) [.int .i64 u, .int .i64 v] t3 (by simp)
 | j + 3, hj => simp at hj
set_option maxRecDepth 100000 in
set_option maxHeartbeats 2000000 in
theorem l4MeetsBox_any (a b c d x y u v : Int) (ha : In6 a) (hb : In6 b) (hc : In6 c) (hd : In6 d) (hx : In6 x) (hy : In6 y) (hu : In6 u) (hv : In6 v) (w : World) :
   Calls Try.prog 18 #[Sg a b c d, Sp x y, Sp u v] w (BoolP (!boxOut a b c d x y u v && (lefts [turnSp a b c d x y, turnSp a b c d u v, turnSp a b c d x v, turnSp a b c d u y] 4 && rights [turnSp a b c d x y, turnSp a b c d u v, turnSp a b c d x v, turnSp a b c d u y] 4)) w) := by
 obtain ⟨ts, hts⟩ : ∃ ts, [turnSp a b c d x y, turnSp a b c d u v, turnSp a b c d x v, turnSp a b c d u y] = ts := ⟨_, rfl⟩
 have HF1 := ups_four (turnSp a b c d x y) (turnSp a b c d u v) (turnSp a b c d x v) (turnSp a b c d u y)
 have HF2 := downs_four (turnSp a b c d x y) (turnSp a b c d u v) (turnSp a b c d x v) (turnSp a b c d u y)
 rw [hts] at HF1 HF2 ⊢
 have T0 := box_start a b c d x y u v w 54 37 37
 go_enter Try.func18, Try.ntmps18
 go_upto_region 1 with fail
 generalize (((w.alloc (.cells #[.int .i64 a, .int .i64 b, .int .i64 c, .int .i64 d] 54)).alloc (.cells #[.int .i64 x, .int .i64 y] 37)).alloc (.cells #[.int .i64 u, .int .i64 v] 37)) = W at *
 go_cut [56] (fun q wx => q = .bool (boxOut a b c d x y u v) ∧ ArgsB w wx [[.int .i64 a, .int .i64 b, .int .i64 c, .int .i64 d], [.int .i64 x, .int .i64 y], [.int .i64 u, .int .i64 v]])
 case first =>
   have a0 := (T0.b 0 rfl).c 0 rfl; have a1 := (T0.b 0 rfl).c 1 rfl; have a2 := (T0.b 0 rfl).c 2 rfl; have a3 := (T0.b 0 rfl).c 3 rfl; have b0 := (T0.b 1 rfl).c 0 rfl; have b1 := (T0.b 1 rfl).c 1 rfl; have c0 := (T0.b 2 rfl).c 0 rfl; have c1 := (T0.b 2 rfl).c 1 rfl; have alt := (T0.b 2 rfl).lt
   simp only [Nat.add_zero] at a0 a1 a2 a3
   go_wp2
   all_goals go_meet
   all_goals refine ⟨?_, T0⟩
   all_goals (apply congrArg Value.bool; unfold boxOut; rw [Bool.eq_iff_iff]; simp; try omega)
 case rest =>
   clear T0
   obtain ⟨hq, T0⟩ := hcut
   subst hq
   have a0 := (T0.b 0 rfl).c 0 rfl; have a1 := (T0.b 0 rfl).c 1 rfl; have a2 := (T0.b 0 rfl).c 2 rfl; have a3 := (T0.b 0 rfl).c 3 rfl; have b0 := (T0.b 1 rfl).c 0 rfl; have b1 := (T0.b 1 rfl).c 1 rfl; have c0 := (T0.b 2 rfl).c 0 rfl; have c1 := (T0.b 2 rfl).c 1 rfl; have alt := (T0.b 2 rfl).lt
   simp only [Nat.add_zero] at a0 a1 a2 a3
   obtain ⟨O, hO⟩ : ∃ O, boxOut a b c d x y u v = O := ⟨_, rfl⟩
   rw [hO]
   cases O
   · go_wp2
     have I0 : PartI w (wc.alloc (.cells #[.int .i64 x, .int .i64 y, .int .i64 u, .int .i64 v, .int .i64 x, .int .i64 v, .int .i64 u, .int .i64 y] 37)) wc.heap.size [.int .i64 a, .int .i64 b, .int .i64 c, .int .i64 d] [.int .i64 x, .int .i64 y, .int .i64 u, .int .i64 v, .int .i64 x, .int .i64 v, .int .i64 u, .int .i64 y] :=
       ⟨T0.below.alloc T0.below.size _, (T0.b 0 rfl).alloc _, Blk.new wc [.int .i64 x, .int .i64 y, .int .i64 u, .int .i64 v, .int .i64 x, .int .i64 v, .int .i64 u, .int .i64 y] 37 rfl⟩
     clear a0 a1 a2 a3 b0 b1 c0 c1 alt T0
     generalize wc.alloc (.cells #[.int .i64 x, .int .i64 y, .int .i64 u, .int .i64 v, .int .i64 x, .int .i64 v, .int .i64 u, .int .i64 y] 37) = W1 at *
     generalize wc.heap.size = g at *
     go_loopw [7, 8, 71] (fun o p i wr => ∃ k : Nat, k ≤ 4 ∧ i = .int .i64 k ∧ o = .int .i64 (ups ts k) ∧ p = .int .i64 (downs ts k) ∧ PartI w wr g [.int .i64 a, .int .i64 b, .int .i64 c, .int .i64 d] [.int .i64 x, .int .i64 y, .int .i64 u, .int .i64 v, .int .i64 x, .int .i64 v, .int .i64 u, .int .i64 y]) (fun _ _ i _ => 4 - (intOf i).toNat)
     case atStart => exact ⟨0, by omega, rfl, rfl, rfl, I0⟩
     case round =>
       clear I0
       obtain ⟨k, hk, rfl, rfl, rfl, I0⟩ := hrel
       have ca0 := I0.seg.c 0 rfl; have ca1 := I0.seg.c 1 rfl; have ca2 := I0.seg.c 2 rfl; have ca3 := I0.seg.c 3 rfl; have calt := I0.seg.lt
       have U := ups_le ts k
       have D := downs_le ts k
       rcases (by omega : k = 0 ∨ k = 1 ∨ k = 2 ∨ k = 3 ∨ k = 4) with rfl | rfl | rfl | rfl | rfl
       · have e1 := I0.row.c 0 rfl; have e2 := I0.row.c 1 rfl
         have K1 := ups_succ ts 0 (turnSp a b c d x y) (by rw [← hts]; rfl)
         have K2 := downs_succ ts 0 (turnSp a b c d x y) (by rw [← hts]; rfl)
         obtain ⟨L, hL⟩ : ∃ L, ups ts 0 = L := ⟨_, rfl⟩
         obtain ⟨R, hR⟩ : ∃ R, downs ts 0 = R := ⟨_, rfl⟩
         rw [hL] at K1 U ⊢; rw [hR] at K2 D ⊢
         clear hL hR hts HF1 HF2
         go_wp2_with fail
         refine (l4Turn_any a b c d x y ha hb hc hd hx hy _).mono ?_
         rintro e w1 ⟨rfl, hB⟩
         replace I0 := (I0.alloc _).step hB
         clear ca0 ca1 ca2 ca3 calt e1 e2 hB
         generalize turnSp a b c d x y = t at *
         rcases Int.lt_trichotomy t 0 with ht | ht | ht
         · have hs : sgnSp t = -1 := by unfold sgnSp; rw [if_pos ht]
           rw [if_neg (by omega)] at K1; rw [if_pos ht] at K2
           rw [hs]
           go_wp2
           all_goals go_roundw
           all_goals first | exact ⟨0 + 1, by omega, rfl, by rw [K1]; simp, by rw [K2]; simp, I0⟩ | simp [intOf]
         · have hs : sgnSp t = 0 := by unfold sgnSp; rw [if_neg (by omega), if_neg (by omega)]
           rw [if_neg (by omega)] at K1; rw [if_neg (by omega)] at K2
           rw [hs]
           go_wp2
           all_goals go_roundw
           all_goals first | exact ⟨0 + 1, by omega, rfl, by rw [K1]; simp, by rw [K2]; simp, I0⟩ | simp [intOf]
         · have hs : sgnSp t = 1 := by unfold sgnSp; rw [if_neg (by omega), if_pos ht]
           rw [if_pos ht] at K1; rw [if_neg (by omega)] at K2
           rw [hs]
           go_wp2
           all_goals go_roundw
           all_goals first | exact ⟨0 + 1, by omega, rfl, by rw [K1]; simp, by rw [K2]; simp, I0⟩ | simp [intOf]
       · have e1 := I0.row.c 2 rfl; have e2 := I0.row.c 3 rfl
         have K1 := ups_succ ts 1 (turnSp a b c d u v) (by rw [← hts]; rfl)
         have K2 := downs_succ ts 1 (turnSp a b c d u v) (by rw [← hts]; rfl)
         obtain ⟨L, hL⟩ : ∃ L, ups ts 1 = L := ⟨_, rfl⟩
         obtain ⟨R, hR⟩ : ∃ R, downs ts 1 = R := ⟨_, rfl⟩
         rw [hL] at K1 U ⊢; rw [hR] at K2 D ⊢
         clear hL hR hts HF1 HF2
         go_wp2_with fail
         refine (l4Turn_any a b c d u v ha hb hc hd hu hv _).mono ?_
         rintro e w1 ⟨rfl, hB⟩
         replace I0 := (I0.alloc _).step hB
         clear ca0 ca1 ca2 ca3 calt e1 e2 hB
         generalize turnSp a b c d u v = t at *
         rcases Int.lt_trichotomy t 0 with ht | ht | ht
         · have hs : sgnSp t = -1 := by unfold sgnSp; rw [if_pos ht]
           rw [if_neg (by omega)] at K1; rw [if_pos ht] at K2
           rw [hs]
           go_wp2
           all_goals go_roundw
           all_goals first | exact ⟨1 + 1, by omega, rfl, by rw [K1]; simp, by rw [K2]; simp, I0⟩ | simp [intOf]
         · have hs : sgnSp t = 0 := by unfold sgnSp; rw [if_neg (by omega), if_neg (by omega)]
           rw [if_neg (by omega)] at K1; rw [if_neg (by omega)] at K2
           rw [hs]
           go_wp2
           all_goals go_roundw
           all_goals first | exact ⟨1 + 1, by omega, rfl, by rw [K1]; simp, by rw [K2]; simp, I0⟩ | simp [intOf]
         · have hs : sgnSp t = 1 := by unfold sgnSp; rw [if_neg (by omega), if_pos ht]
           rw [if_pos ht] at K1; rw [if_neg (by omega)] at K2
           rw [hs]
           go_wp2
           all_goals go_roundw
           all_goals first | exact ⟨1 + 1, by omega, rfl, by rw [K1]; simp, by rw [K2]; simp, I0⟩ | simp [intOf]
       · have e1 := I0.row.c 4 rfl; have e2 := I0.row.c 5 rfl
         have K1 := ups_succ ts 2 (turnSp a b c d x v) (by rw [← hts]; rfl)
         have K2 := downs_succ ts 2 (turnSp a b c d x v) (by rw [← hts]; rfl)
         obtain ⟨L, hL⟩ : ∃ L, ups ts 2 = L := ⟨_, rfl⟩
         obtain ⟨R, hR⟩ : ∃ R, downs ts 2 = R := ⟨_, rfl⟩
         rw [hL] at K1 U ⊢; rw [hR] at K2 D ⊢
         clear hL hR hts HF1 HF2
         go_wp2_with fail
         refine (l4Turn_any a b c d x v ha hb hc hd hx hv _).mono ?_
         rintro e w1 ⟨rfl, hB⟩
         replace I0 := (I0.alloc _).step hB
         clear ca0 ca1 ca2 ca3 calt e1 e2 hB
         generalize turnSp a b c d x v = t at *
         rcases Int.lt_trichotomy t 0 with ht | ht | ht
         · have hs : sgnSp t = -1 := by unfold sgnSp; rw [if_pos ht]
           rw [if_neg (by omega)] at K1; rw [if_pos ht] at K2
           rw [hs]
           go_wp2
           all_goals go_roundw
           all_goals first | exact ⟨2 + 1, by omega, rfl, by rw [K1]; simp, by rw [K2]; simp, I0⟩ | simp [intOf]
         · have hs : sgnSp t = 0 := by unfold sgnSp; rw [if_neg (by omega), if_neg (by omega)]
           rw [if_neg (by omega)] at K1; rw [if_neg (by omega)] at K2
           rw [hs]
           go_wp2
           all_goals go_roundw
           all_goals first | exact ⟨2 + 1, by omega, rfl, by rw [K1]; simp, by rw [K2]; simp, I0⟩ | simp [intOf]
         · have hs : sgnSp t = 1 := by unfold sgnSp; rw [if_neg (by omega), if_pos ht]
           rw [if_pos ht] at K1; rw [if_neg (by omega)] at K2
           rw [hs]
           go_wp2
           all_goals go_roundw
           all_goals first | exact ⟨2 + 1, by omega, rfl, by rw [K1]; simp, by rw [K2]; simp, I0⟩ | simp [intOf]
       · have e1 := I0.row.c 6 rfl; have e2 := I0.row.c 7 rfl
         have K1 := ups_succ ts 3 (turnSp a b c d u y) (by rw [← hts]; rfl)
         have K2 := downs_succ ts 3 (turnSp a b c d u y) (by rw [← hts]; rfl)
         obtain ⟨L, hL⟩ : ∃ L, ups ts 3 = L := ⟨_, rfl⟩
         obtain ⟨R, hR⟩ : ∃ R, downs ts 3 = R := ⟨_, rfl⟩
         rw [hL] at K1 U ⊢; rw [hR] at K2 D ⊢
         clear hL hR hts HF1 HF2
         go_wp2_with fail
         refine (l4Turn_any a b c d u y ha hb hc hd hu hy _).mono ?_
         rintro e w1 ⟨rfl, hB⟩
         replace I0 := (I0.alloc _).step hB
         clear ca0 ca1 ca2 ca3 calt e1 e2 hB
         generalize turnSp a b c d u y = t at *
         rcases Int.lt_trichotomy t 0 with ht | ht | ht
         · have hs : sgnSp t = -1 := by unfold sgnSp; rw [if_pos ht]
           rw [if_neg (by omega)] at K1; rw [if_pos ht] at K2
           rw [hs]
           go_wp2
           all_goals go_roundw
           all_goals first | exact ⟨3 + 1, by omega, rfl, by rw [K1]; simp, by rw [K2]; simp, I0⟩ | simp [intOf]
         · have hs : sgnSp t = 0 := by unfold sgnSp; rw [if_neg (by omega), if_neg (by omega)]
           rw [if_neg (by omega)] at K1; rw [if_neg (by omega)] at K2
           rw [hs]
           go_wp2
           all_goals go_roundw
           all_goals first | exact ⟨3 + 1, by omega, rfl, by rw [K1]; simp, by rw [K2]; simp, I0⟩ | simp [intOf]
         · have hs : sgnSp t = 1 := by unfold sgnSp; rw [if_neg (by omega), if_pos ht]
           rw [if_pos ht] at K1; rw [if_neg (by omega)] at K2
           rw [hs]
           go_wp2
           all_goals go_roundw
           all_goals first | exact ⟨3 + 1, by omega, rfl, by rw [K1]; simp, by rw [K2]; simp, I0⟩ | simp [intOf]
       · obtain ⟨L, hL⟩ : ∃ L, ups ts 4 = L := ⟨_, rfl⟩
         obtain ⟨R, hR⟩ : ∃ R, downs ts 4 = R := ⟨_, rfl⟩
         rw [hL] at HF1 U ⊢; rw [hR] at HF2 D ⊢
         clear hL hR hts
         go_wp2
         all_goals go_ret
         all_goals exact ⟨ret_bool (by first | (rw [hO, ← HF1, ← HF2, Bool.eq_iff_iff]; simp; done) | (rw [hO, ← HF1, ← HF2, Bool.eq_iff_iff]; simp; omega) | (rw [← HF1, ← HF2, Bool.eq_iff_iff]; simp; done) | (rw [← HF1, ← HF2, Bool.eq_iff_iff]; simp; omega)), I0.below⟩
   · go_wp2
     go_ret
     exact ⟨ret_bool (by rw [hO]; rfl), T0.below⟩
def boxOk (x y u v : Int) : Bool := spotOk x y && spotOk u v && decide (x ≤ u) && decide (y ≤ v)
theorem in6_of_spot {x y : Int} (h : spotOk x y = true) : In6 x ∧ In6 y := by
 unfold spotOk at h
 simp at h
 exact ⟨⟨by omega, by omega⟩, ⟨by omega, by omega⟩⟩
theorem spots_of_seg {a b c d : Int} (h : segOk a b c d = true) : spotOk a b = true ∧ spotOk c d = true := by
 unfold segOk at h
 simp at h
 exact ⟨h.1.1, h.1.2⟩
set_option maxRecDepth 100000 in
set_option maxHeartbeats 1000000 in
theorem l4Box_any (x y u v : Int) (z : Bool) (hz : boxOk x y u v = z) (w : World) : Calls Try.prog 17 #[Sp x y, Sp u v] w (BoolP z w) := by
 have B0 := (Blk.new w [.int .i64 x, .int .i64 y] 37 rfl).alloc (.cells #[.int .i64 u, .int .i64 v] 37)
 have B1 := Blk.new (w.alloc (.cells #[.int .i64 x, .int .i64 y] 37)) [.int .i64 u, .int .i64 v] 37 (g := w.heap.size + 1) (by simp)
 have HB0 := ((Below.refl _ w).alloc (Nat.le_refl _) (.cells #[.int .i64 x, .int .i64 y] 37)).alloc (by simp) (.cells #[.int .i64 u, .int .i64 v] 37)
 by_cases h1 : spotOk x y = true
 · by_cases h2 : spotOk u v = true
   · go_enter Try.func17, Try.ntmps17
     go_wp2_with fail
     refine (specSpotOk_any _ _ true h1 _).mono ?_
     rintro e w1 ⟨rfl, hB⟩
     replace B0 := B0.step hB; replace B1 := B1.step hB
     have HB : Below w.heap.size w w1 := HB0.trans (hB.mono HB0.size)
     clear hB HB0
     have p0 := B0.c 0 rfl; have p1 := B0.c 1 rfl; have q0 := B1.c 0 rfl; have q1 := B1.c 1 rfl
     go_wp2_with fail
     refine (specSpotOk_any _ _ true h2 _).mono ?_
     rintro e w2 ⟨rfl, hB⟩
     have HB2 : Below w.heap.size w w2 := HB.trans (hB.mono HB.size)
     replace B0 := B0.step hB; replace B1 := B1.step hB
     clear hB HB p0 p1 q0 q1
     have p0 := B0.c 0 rfl; have p1 := B0.c 1 rfl; have q0 := B1.c 0 rfl; have q1 := B1.c 1 rfl
     go_wp2
     all_goals go_ret
     all_goals exact ⟨ret_bool (by rw [← hz]; unfold boxOk; rw [h1, h2, Bool.eq_iff_iff]; simp; try omega), HB2⟩
   · have h2 := Bool.eq_false_iff.2 h2
     go_enter Try.func17, Try.ntmps17
     go_wp2_with fail
     refine (specSpotOk_any _ _ true h1 _).mono ?_
     rintro e w1 ⟨rfl, hB⟩
     replace B0 := B0.step hB; replace B1 := B1.step hB
     have HB : Below w.heap.size w w1 := HB0.trans (hB.mono HB0.size)
     clear hB HB0
     have p0 := B0.c 0 rfl; have p1 := B0.c 1 rfl; have q0 := B1.c 0 rfl; have q1 := B1.c 1 rfl
     go_wp2_with fail
     refine (specSpotOk_any _ _ false h2 _).mono ?_
     rintro e w2 ⟨rfl, hB⟩
     have HB2 : Below w.heap.size w w2 := HB.trans (hB.mono HB.size)
     clear hB HB p0 p1 q0 q1
     go_wp2
     go_ret
     exact ⟨ret_bool (by rw [← hz]; simp [boxOk, h1, h2]), HB2⟩
 · have h1 := Bool.eq_false_iff.2 h1
   go_enter Try.func17, Try.ntmps17
   go_wp2_with fail
   refine (specSpotOk_any _ _ false h1 _).mono ?_
   rintro e w1 ⟨rfl, hB⟩
   have HB : Below w.heap.size w w1 := HB0.trans (hB.mono HB0.size)
   clear hB HB0
   go_wp2
   go_ret
   exact ⟨ret_bool (by rw [← hz]; simp [boxOk, h1]), HB⟩
set_option maxRecDepth 100000 in
set_option maxHeartbeats 2000000 in
theorem isBox_any (x y u v : Int) (w : World) : Calls Try.prog 22 #[Sp x y, Sp u v] w (BoolP (boxOk x y u v) w) := by
 have B0 := (Blk.new w [.int .i64 x, .int .i64 y] 37 rfl).alloc (.cells #[.int .i64 u, .int .i64 v] 37)
 have B1 := Blk.new (w.alloc (.cells #[.int .i64 x, .int .i64 y] 37)) [.int .i64 u, .int .i64 v] 37 (g := w.heap.size + 1) (by simp)
 have HB : Below w.heap.size w ((w.alloc (.cells #[.int .i64 x, .int .i64 y] 37)).alloc (.cells #[.int .i64 u, .int .i64 v] 37)) := ((Below.refl _ w).alloc (Nat.le_refl _) _).alloc (by simp) _
 go_enter Try.func22, Try.ntmps22
 go_upto_region 1 with fail
 generalize ((w.alloc (.cells #[.int .i64 x, .int .i64 y] 37)).alloc (.cells #[.int .i64 u, .int .i64 v] 37)) = W at *
 have b0 := B0.c 0 rfl; have b1 := B0.c 1 rfl; have c0 := B1.c 0 rfl; have c1 := B1.c 1 rfl
 by_cases h2 : spotOk x y = true
 · by_cases h3 : spotOk u v = true
   · skip
     go_wp2_with fail
     refine (implSpotOk_any _ _ true h2 _).mono ?_
     rintro e w1 ⟨rfl, hB⟩
     replace B0 := B0.step hB; replace B1 := B1.step hB; replace HB := HB.trans (hB.mono HB.size)
     clear hB
     clear b0 b1 c0 c1
     have b0 := B0.c 0 rfl; have b1 := B0.c 1 rfl; have c0 := B1.c 0 rfl; have c1 := B1.c 1 rfl
     go_wp2_with fail
     refine (implSpotOk_any _ _ true h3 _).mono ?_
     rintro e w2 ⟨rfl, hB⟩
     replace B0 := B0.step hB; replace B1 := B1.step hB; replace HB := HB.trans (hB.mono HB.size)
     clear hB
     clear b0 b1 c0 c1
     have b0 := B0.c 0 rfl; have b1 := B0.c 1 rfl; have c0 := B1.c 0 rfl; have c1 := B1.c 1 rfl
     by_cases h4 : x ≤ u
     · have HO : Hid (boxOk x y u v = decide (y ≤ v)) := by show _ = _; simp [boxOk, h2, h3, h4]
       clear h2 h3
       go_wp2
       all_goals go_ret
       all_goals exact ⟨ret_bool (by rw [HO.out]), HB⟩
     · have HO : Hid (boxOk x y u v = false) := by show _ = _; simp [boxOk, h4]
       have h4' : u < x := by omega
       clear h2 h3 h4
       go_wp2
       all_goals go_ret
       all_goals exact ⟨ret_bool (by rw [HO.out]), HB⟩
   · have h3 := Bool.eq_false_iff.2 h3
     have HO : Hid (boxOk x y u v = false) := by show _ = _; simp [boxOk, h3]
     go_wp2_with fail
     refine (implSpotOk_any _ _ true h2 _).mono ?_
     rintro e w1 ⟨rfl, hB⟩
     replace B0 := B0.step hB; replace B1 := B1.step hB; replace HB := HB.trans (hB.mono HB.size)
     clear hB
     clear b0 b1 c0 c1
     have b0 := B0.c 0 rfl; have b1 := B0.c 1 rfl; have c0 := B1.c 0 rfl; have c1 := B1.c 1 rfl
     go_wp2_with fail
     refine (implSpotOk_any _ _ false h3 _).mono ?_
     rintro e w2 ⟨rfl, hB⟩
     replace B0 := B0.step hB; replace B1 := B1.step hB; replace HB := HB.trans (hB.mono HB.size)
     clear hB
     clear b0 b1 c0 c1 h2 h3
     go_wp2
     all_goals go_ret
     all_goals exact ⟨ret_bool (by rw [HO.out]), HB⟩
 · have h2 := Bool.eq_false_iff.2 h2
   have HO : Hid (boxOk x y u v = false) := by show _ = _; simp [boxOk, h2]
   go_wp2_with fail
   refine (implSpotOk_any _ _ false h2 _).mono ?_
   rintro e w1 ⟨rfl, hB⟩
   replace B0 := B0.step hB; replace B1 := B1.step hB; replace HB := HB.trans (hB.mono HB.size)
   clear hB
   clear b0 b1 c0 c1 h2
   go_wp2
   all_goals go_ret
   all_goals exact ⟨ret_bool (by rw [HO.out]), HB⟩
set_option maxRecDepth 100000 in
set_option maxHeartbeats 2000000 in
theorem meetsBox_any (a b c d x y u v : Int) (ha : In6 a) (hb : In6 b) (hc : In6 c) (hd : In6 d) (hx : In6 x) (hy : In6 y) (hu : In6 u) (hv : In6 v) (w : World) : Calls Try.prog 48 #[Sg a b c d, Sp x y, Sp u v] w (BoolP (!boxOut a b c d x y u v && (lefts [turnSp a b c d x y, turnSp a b c d u v, turnSp a b c d x v, turnSp a b c d u y] 4 && rights [turnSp a b c d x y, turnSp a b c d u v, turnSp a b c d x v, turnSp a b c d u y] 4)) w) := by
 have T0 := box_start a b c d x y u v w 54 37 37
 go_enter Try.func48, Try.ntmps48
 go_upto_region 1 with fail
 generalize (((w.alloc (.cells #[.int .i64 a, .int .i64 b, .int .i64 c, .int .i64 d] 54)).alloc (.cells #[.int .i64 x, .int .i64 y] 37)).alloc (.cells #[.int .i64 u, .int .i64 v] 37)) = W at *
 have a0 := (T0.b 0 rfl).c 0 rfl; have a1 := (T0.b 0 rfl).c 1 rfl; have a2 := (T0.b 0 rfl).c 2 rfl; have a3 := (T0.b 0 rfl).c 3 rfl; have b0 := (T0.b 1 rfl).c 0 rfl; have b1 := (T0.b 1 rfl).c 1 rfl; have c0 := (T0.b 2 rfl).c 0 rfl; have c1 := (T0.b 2 rfl).c 1 rfl; have alt := (T0.b 2 rfl).lt; simp only [Nat.add_zero] at a0 a1 a2 a3
 go_cut [44] (fun q wx => q = .bool (boxOut a b c d x y u v) ∧ ArgsB w wx [[.int .i64 a, .int .i64 b, .int .i64 c, .int .i64 d], [.int .i64 x, .int .i64 y], [.int .i64 u, .int .i64 v]])
 case first =>
   go_wp2
   all_goals go_meet
   all_goals refine ⟨?_, T0⟩
   all_goals (apply congrArg Value.bool; unfold boxOut; rw [Bool.eq_iff_iff]; simp; try omega)
 case rest =>
   clear a0 a1 a2 a3 b0 b1 c0 c1 alt T0
   obtain ⟨hq, T0⟩ := hcut
   subst hq
   have a0 := (T0.b 0 rfl).c 0 rfl; have a1 := (T0.b 0 rfl).c 1 rfl; have a2 := (T0.b 0 rfl).c 2 rfl; have a3 := (T0.b 0 rfl).c 3 rfl; have b0 := (T0.b 1 rfl).c 0 rfl; have b1 := (T0.b 1 rfl).c 1 rfl; have c0 := (T0.b 2 rfl).c 0 rfl; have c1 := (T0.b 2 rfl).c 1 rfl; have alt := (T0.b 2 rfl).lt; simp only [Nat.add_zero] at a0 a1 a2 a3
   obtain ⟨M, hM⟩ : ∃ M, boxOut a b c d x y u v = M := ⟨_, rfl⟩
   rw [hM]
   cases M
   · go_wp2_with fail
     refine (parts_any a b c d x y u v x v u y ha hb hc hd hx hy hu hv hx hv hu hy wc.heap.size _ (Blk.new wc [.int .i64 x, .int .i64 y, .int .i64 u, .int .i64 v, .int .i64 x, .int .i64 v, .int .i64 u, .int .i64 y] 37 rfl)).mono ?_
     rintro e w4 ⟨rfl, hB⟩
     have HB : Below w.heap.size w w4 := (T0.alloc _).below.trans (hB.mono (T0.alloc _).below.size)
     clear hB a0 a1 a2 a3 b0 b1 c0 c1 alt T0
     go_wp2
     go_ret
     exact ⟨ret_bool (by simp [hM]), HB⟩
   · have HBF := T0.below
     clear a0 a1 a2 a3 b0 b1 c0 c1 alt T0
     go_wp2
     go_ret
     exact ⟨ret_bool (by simp [hM]), HBF⟩
def hitB (a b c d x y u v : Int) : Bool := !boxOut a b c d x y u v && (lefts [turnSp a b c d x y, turnSp a b c d u v, turnSp a b c d x v, turnSp a b c d u y] 4 && rights [turnSp a b c d x y, turnSp a b c d u v, turnSp a b c d x v, turnSp a b c d u y] 4)
theorem NoOwn.mono {w : World} {b b' : Nat} {v : Value} {L : List Int} (h : NoOwn w b' v L) (hb : b ≤ b') : NoOwn w b v L := by
 rcases h with h | ⟨g, cap, f, h1, h2, h3⟩
 · exact .inl h
 · exact .inr ⟨g, cap, f, h1, by omega, h3⟩
theorem turn_parts (a b c d X Y P Q : Int) : turnSp a b c d P Q = turnSp a b c d X Y + (c - a) * (Q - Y) + (d - b) * (X - P) := by
 unfold turnSp
 grind
theorem mul_nn {p q : Int} (hp : 0 ≤ p) (hq : 0 ≤ q) : 0 ≤ p * q := Int.mul_nonneg hp hq
theorem mul_pp {p q : Int} (hp : p ≤ 0) (hq : q ≤ 0) : 0 ≤ p * q := Int.mul_nonneg_of_nonpos_of_nonpos hp hq
theorem mul_np {p q : Int} (hp : 0 ≤ p) (hq : q ≤ 0) : p * q ≤ 0 := Int.mul_nonpos_of_nonneg_of_nonpos hp hq
theorem mul_pn {p q : Int} (hp : p ≤ 0) (hq : 0 ≤ q) : p * q ≤ 0 := Int.mul_nonpos_of_nonpos_of_nonneg hp hq
theorem turn_up {a b c d X Y x y u v : Int} (h1 : x ≤ X) (h2 : X ≤ u) (h3 : y ≤ Y) (h4 : Y ≤ v) (h : 0 ≤ turnSp a b c d X Y) : 0 ≤ turnSp a b c d x y ∨ 0 ≤ turnSp a b c d u v ∨ 0 ≤ turnSp a b c d x v ∨ 0 ≤ turnSp a b c d u y := by
 rcases Int.le_total 0 (c - a) with hA | hA <;> rcases Int.le_total 0 (d - b) with hD | hD
 · refine .inr (.inr (.inl ?_))
   rw [turn_parts a b c d X Y]
   have := mul_nn hA (show 0 ≤ v - Y by omega)
   have := mul_nn hD (show 0 ≤ X - x by omega)
   omega
 · refine .inr (.inl ?_)
   rw [turn_parts a b c d X Y]
   have := mul_nn hA (show 0 ≤ v - Y by omega)
   have := mul_pp hD (show X - u ≤ 0 by omega)
   omega
 · refine .inl ?_
   rw [turn_parts a b c d X Y]
   have := mul_pp hA (show y - Y ≤ 0 by omega)
   have := mul_nn hD (show 0 ≤ X - x by omega)
   omega
 · refine .inr (.inr (.inr ?_))
   rw [turn_parts a b c d X Y]
   have := mul_pp hA (show y - Y ≤ 0 by omega)
   have := mul_pp hD (show X - u ≤ 0 by omega)
   omega
theorem turn_down {a b c d X Y x y u v : Int} (h1 : x ≤ X) (h2 : X ≤ u) (h3 : y ≤ Y) (h4 : Y ≤ v) (h : turnSp a b c d X Y ≤ 0) : turnSp a b c d x y ≤ 0 ∨ turnSp a b c d u v ≤ 0 ∨ turnSp a b c d x v ≤ 0 ∨ turnSp a b c d u y ≤ 0 := by
 rcases Int.le_total 0 (c - a) with hA | hA <;> rcases Int.le_total 0 (d - b) with hD | hD
 · refine .inr (.inr (.inr ?_))
   rw [turn_parts a b c d X Y]
   have := mul_np hA (show y - Y ≤ 0 by omega)
   have := mul_np hD (show X - u ≤ 0 by omega)
   omega
 · refine .inl ?_
   rw [turn_parts a b c d X Y]
   have := mul_np hA (show y - Y ≤ 0 by omega)
   have := mul_pn hD (show 0 ≤ X - x by omega)
   omega
 · refine .inr (.inl ?_)
   rw [turn_parts a b c d X Y]
   have := mul_pn hA (show 0 ≤ v - Y by omega)
   have := mul_np hD (show X - u ≤ 0 by omega)
   omega
 · refine .inr (.inr (.inl ?_))
   rw [turn_parts a b c d X Y]
   have := mul_pn hA (show 0 ≤ v - Y by omega)
   have := mul_pn hD (show 0 ≤ X - x by omega)
   omega
theorem lefts4 (p q r s : Int) : lefts [p, q, r, s] 4 = true ↔ 0 ≤ p ∨ 0 ≤ q ∨ 0 ≤ r ∨ 0 ≤ s := by simp [lefts]
theorem rights4 (p q r s : Int) : rights [p, q, r, s] 4 = true ↔ p ≤ 0 ∨ q ≤ 0 ∨ r ≤ 0 ∨ s ≤ 0 := by simp [rights]
theorem hit_wider {a b c d x y u v x' y' u' v' : Int} (hx : x' ≤ x) (hy : y' ≤ y) (hu : u ≤ u') (hv : v ≤ v') (hxu : x ≤ u) (hyv : y ≤ v) (h : hitB a b c d x y u v = true) : hitB a b c d x' y' u' v' = true := by
 unfold hitB at h ⊢
 simp only [Bool.and_eq_true, Bool.not_eq_true', lefts4, rights4] at h ⊢
 obtain ⟨h1, h2, h3⟩ := h
 refine ⟨?_, ?_, ?_⟩
 · unfold boxOut at h1 ⊢
   rw [decide_eq_false_iff_not] at h1 ⊢
   omega
 · rcases h2 with h2 | h2 | h2 | h2 <;> exact turn_up (by omega) (by omega) (by omega) (by omega) h2
 · rcases h3 with h3 | h3 | h3 | h3 <;> exact turn_down (by omega) (by omega) (by omega) (by omega) h3
end Go.Proofs.Ythelolpogdcmhaa
