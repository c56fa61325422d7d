/- Part 12 of the walks that the proof leans on. -/
import Derived.Test.YtckbhihdhcgaeaaBas11
import Derived.Deep.Strs
import Derived.Test.YtckbhihdhcgaeaaRows
import Derived.ProofKit
import Derived.Lib.SmallJoins
/- Points: the law's own copy of one, and how one reads as data. -/
namespace Go.Proofs.Ytckbhihdhcgaeaa
open Go.ChangeShapes Go.WideShapes Go.ChangeAt Go.RowKit Go.Joins
theorem toWide_det (x : Int) (w : World) : Calls Try.prog 21 #[W4 x] w (VP (W4 x) w) := toWide_any _ _ _ _ w
set_option maxRecDepth 100000 in
set_option maxHeartbeats 2000000 in
theorem toPoint_det (x y z : Int) (w : World) : Calls Try.prog 18 #[PV x y z] w (VP (PV x y z) w) := by
  have T5 : ArgsB w (((w.alloc (.cells #[.int .u64 (ww3 x), .int .u64 (ww2 x), .int .u64 (ww1 x), .int .u64 (ww0 x), .int .u64 (ww3 y), .int .u64 (ww2 y), .int .u64 (ww1 y), .int .u64 (ww0 y), .int .u64 (ww3 z), .int .u64 (ww2 z), .int .u64 (ww1 z), .int .u64 (ww0 z)] 26)).alloc (.cells #[.int .u64 0, .int .u64 0, .int .u64 0, .int .u64 0, .int .u64 0, .int .u64 0, .int .u64 0, .int .u64 0, .int .u64 0, .int .u64 0, .int .u64 0, .int .u64 0] 30)).alloc (.cells #[.int .u64 0, .int .u64 0, .int .u64 0, .int .u64 0, .int .u64 0, .int .u64 0, .int .u64 0, .int .u64 0, .int .u64 0, .int .u64 0, .int .u64 0, .int .u64 0] 30)) [[.int .u64 (ww3 x), .int .u64 (ww2 x), .int .u64 (ww1 x), .int .u64 (ww0 x), .int .u64 (ww3 y), .int .u64 (ww2 y), .int .u64 (ww1 y), .int .u64 (ww0 y), .int .u64 (ww3 z), .int .u64 (ww2 z), .int .u64 (ww1 z), .int .u64 (ww0 z)], [.int .u64 0, .int .u64 0, .int .u64 0, .int .u64 0, .int .u64 0, .int .u64 0, .int .u64 0, .int .u64 0, .int .u64 0, .int .u64 0, .int .u64 0, .int .u64 0], [.int .u64 0, .int .u64 0, .int .u64 0, .int .u64 0, .int .u64 0, .int .u64 0, .int .u64 0, .int .u64 0, .int .u64 0, .int .u64 0, .int .u64 0, .int .u64 0]] := ar3 _ _ _ _ _ _ w
  have X0 : Blk _ w.heap.size _ := T5.b 0 rfl; have R0 : Blk _ (w.heap.size + 1) _ := T5.b 1 rfl; have O0 : Blk _ (w.heap.size + 1 + 1) _ := T5.b 2 rfl
  have HB := T5.below
  clear T5
  go_enter Try.func18, Try.ntmps18
  go_wp2_with fail
  refine (toWide_det x _).mono ?_
  rintro e w1 ⟨rfl, hB⟩
  replace X0 := X0.step hB; replace R0 := R0.step hB; replace O0 := O0.step hB; replace HB := HB.trans (hB.mono HB.size)
  clear hB
  have xc4 := X0.c 4 rfl; have xc5 := X0.c 5 rfl; have xc6 := X0.c 6 rfl; have xc7 := X0.c 7 rfl; have xl := X0.lt; have oc0 := O0.c 0 rfl; have of0 := O0.f 0 rfl; have oc1 := O0.c 1 rfl; have of1 := O0.f 1 rfl; have oc2 := O0.c 2 rfl; have of2 := O0.f 2 rfl; have oc3 := O0.c 3 rfl; have of3 := O0.f 3 rfl; have ol := O0.lt
  go_wp2_with fail
  clear xc4 xc5 xc6 xc7 xl oc0 of0 oc1 of1 oc2 of2 oc3 of3 ol
  replace X0 : Blk ((((w1.setCell ⟨w.heap.size + 1 + 1, 0, none⟩ (.int .u64 (ww3 x))).setCell ⟨w.heap.size + 1 + 1, 1, none⟩ (.int .u64 (ww2 x))).setCell ⟨w.heap.size + 1 + 1, 2, none⟩ (.int .u64 (ww1 x))).setCell ⟨w.heap.size + 1 + 1, 3, none⟩ (.int .u64 (ww0 x))) w.heap.size _ := (((X0.setO (by show w.heap.size ≠ w.heap.size + 1 + 1; omega) _).setO (by show w.heap.size ≠ w.heap.size + 1 + 1; omega) _).setO (by show w.heap.size ≠ w.heap.size + 1 + 1; omega) _).setO (by show w.heap.size ≠ w.heap.size + 1 + 1; omega) _
  replace R0 : Blk ((((w1.setCell ⟨w.heap.size + 1 + 1, 0, none⟩ (.int .u64 (ww3 x))).setCell ⟨w.heap.size + 1 + 1, 1, none⟩ (.int .u64 (ww2 x))).setCell ⟨w.heap.size + 1 + 1, 2, none⟩ (.int .u64 (ww1 x))).setCell ⟨w.heap.size + 1 + 1, 3, none⟩ (.int .u64 (ww0 x))) (w.heap.size + 1) _ := (((R0.setO (by show w.heap.size + 1 ≠ w.heap.size + 1 + 1; omega) _).setO (by show w.heap.size + 1 ≠ w.heap.size + 1 + 1; omega) _).setO (by show w.heap.size + 1 ≠ w.heap.size + 1 + 1; omega) _).setO (by show w.heap.size + 1 ≠ w.heap.size + 1 + 1; omega) _
  replace O0 := (((O0.setI 0 (by simp) (.int .u64 (ww3 x))).setI 1 (by simp) (.int .u64 (ww2 x))).setI 2 (by simp) (.int .u64 (ww1 x))).setI 3 (by simp) (.int .u64 (ww0 x))
  replace HB : Below w.heap.size w ((((w1.setCell ⟨w.heap.size + 1 + 1, 0, none⟩ (.int .u64 (ww3 x))).setCell ⟨w.heap.size + 1 + 1, 1, none⟩ (.int .u64 (ww2 x))).setCell ⟨w.heap.size + 1 + 1, 2, none⟩ (.int .u64 (ww1 x))).setCell ⟨w.heap.size + 1 + 1, 3, none⟩ (.int .u64 (ww0 x))) := (((HB.setCell (by show w.heap.size ≤ w.heap.size + 1 + 1; omega) _).setCell (by show w.heap.size ≤ w.heap.size + 1 + 1; omega) _).setCell (by show w.heap.size ≤ w.heap.size + 1 + 1; omega) _).setCell (by show w.heap.size ≤ w.heap.size + 1 + 1; omega) _
  generalize ((((w1.setCell ⟨w.heap.size + 1 + 1, 0, none⟩ (.int .u64 (ww3 x))).setCell ⟨w.heap.size + 1 + 1, 1, none⟩ (.int .u64 (ww2 x))).setCell ⟨w.heap.size + 1 + 1, 2, none⟩ (.int .u64 (ww1 x))).setCell ⟨w.heap.size + 1 + 1, 3, none⟩ (.int .u64 (ww0 x))) = W1 at *
  simp only [List.set_cons_zero, List.set_cons_succ] at O0
  refine (toWide_det y _).mono ?_
  rintro e w2 ⟨rfl, hB⟩
  replace X0 := X0.step hB; replace R0 := R0.step hB; replace O0 := O0.step hB; replace HB := HB.trans (hB.mono HB.size)
  clear hB
  have xc8 := X0.c 8 rfl; have xc9 := X0.c 9 rfl; have xc10 := X0.c 10 rfl; have xc11 := X0.c 11 rfl; have xl := X0.lt; have oc4 := O0.c 4 rfl; have of4 := O0.f 4 rfl; have oc5 := O0.c 5 rfl; have of5 := O0.f 5 rfl; have oc6 := O0.c 6 rfl; have of6 := O0.f 6 rfl; have oc7 := O0.c 7 rfl; have of7 := O0.f 7 rfl; have ol := O0.lt
  go_wp2_with fail
  clear xc8 xc9 xc10 xc11 xl oc4 of4 oc5 of5 oc6 of6 oc7 of7 ol
  replace X0 : Blk ((((w2.setCell ⟨w.heap.size + 1 + 1, 4, none⟩ (.int .u64 (ww3 y))).setCell ⟨w.heap.size + 1 + 1, 5, none⟩ (.int .u64 (ww2 y))).setCell ⟨w.heap.size + 1 + 1, 6, none⟩ (.int .u64 (ww1 y))).setCell ⟨w.heap.size + 1 + 1, 7, none⟩ (.int .u64 (ww0 y))) w.heap.size _ := (((X0.setO (by show w.heap.size ≠ w.heap.size + 1 + 1; omega) _).setO (by show w.heap.size ≠ w.heap.size + 1 + 1; omega) _).setO (by show w.heap.size ≠ w.heap.size + 1 + 1; omega) _).setO (by show w.heap.size ≠ w.heap.size + 1 + 1; omega) _
  replace R0 : Blk ((((w2.setCell ⟨w.heap.size + 1 + 1, 4, none⟩ (.int .u64 (ww3 y))).setCell ⟨w.heap.size + 1 + 1, 5, none⟩ (.int .u64 (ww2 y))).setCell ⟨w.heap.size + 1 + 1, 6, none⟩ (.int .u64 (ww1 y))).setCell ⟨w.heap.size + 1 + 1, 7, none⟩ (.int .u64 (ww0 y))) (w.heap.size + 1) _ := (((R0.setO (by show w.heap.size + 1 ≠ w.heap.size + 1 + 1; omega) _).setO (by show w.heap.size + 1 ≠ w.heap.size + 1 + 1; omega) _).setO (by show w.heap.size + 1 ≠ w.heap.size + 1 + 1; omega) _).setO (by show w.heap.size + 1 ≠ w.heap.size + 1 + 1; omega) _
  replace O0 := (((O0.setI 4 (by simp) (.int .u64 (ww3 y))).setI 5 (by simp) (.int .u64 (ww2 y))).setI 6 (by simp) (.int .u64 (ww1 y))).setI 7 (by simp) (.int .u64 (ww0 y))
  replace HB : Below w.heap.size w ((((w2.setCell ⟨w.heap.size + 1 + 1, 4, none⟩ (.int .u64 (ww3 y))).setCell ⟨w.heap.size + 1 + 1, 5, none⟩ (.int .u64 (ww2 y))).setCell ⟨w.heap.size + 1 + 1, 6, none⟩ (.int .u64 (ww1 y))).setCell ⟨w.heap.size + 1 + 1, 7, none⟩ (.int .u64 (ww0 y))) := (((HB.setCell (by show w.heap.size ≤ w.heap.size + 1 + 1; omega) _).setCell (by show w.heap.size ≤ w.heap.size + 1 + 1; omega) _).setCell (by show w.heap.size ≤ w.heap.size + 1 + 1; omega) _).setCell (by show w.heap.size ≤ w.heap.size + 1 + 1; omega) _
  generalize ((((w2.setCell ⟨w.heap.size + 1 + 1, 4, none⟩ (.int .u64 (ww3 y))).setCell ⟨w.heap.size + 1 + 1, 5, none⟩ (.int .u64 (ww2 y))).setCell ⟨w.heap.size + 1 + 1, 6, none⟩ (.int .u64 (ww1 y))).setCell ⟨w.heap.size + 1 + 1, 7, none⟩ (.int .u64 (ww0 y))) = W2 at *
  simp only [List.set_cons_zero, List.set_cons_succ] at O0
  refine (toWide_det z _).mono ?_
  rintro e w3 ⟨rfl, hB⟩
  replace X0 := X0.step hB; replace R0 := R0.step hB; replace O0 := O0.step hB; replace HB := HB.trans (hB.mono HB.size)
  clear hB
  have oc0 := O0.c 0 rfl; have of0 := O0.f 0 rfl; have oc1 := O0.c 1 rfl; have of1 := O0.f 1 rfl; have oc2 := O0.c 2 rfl; have of2 := O0.f 2 rfl; have oc3 := O0.c 3 rfl; have of3 := O0.f 3 rfl; have oc4 := O0.c 4 rfl; have of4 := O0.f 4 rfl; have oc5 := O0.c 5 rfl; have of5 := O0.f 5 rfl; have oc6 := O0.c 6 rfl; have of6 := O0.f 6 rfl; have oc7 := O0.c 7 rfl; have of7 := O0.f 7 rfl; have oc8 := O0.c 8 rfl; have of8 := O0.f 8 rfl; have oc9 := O0.c 9 rfl; have of9 := O0.f 9 rfl; have oc10 := O0.c 10 rfl; have of10 := O0.f 10 rfl; have oc11 := O0.c 11 rfl; have of11 := O0.f 11 rfl; have ol := O0.lt; have rc0 := R0.c 0 rfl; have rf0 := R0.f 0 rfl; have rc1 := R0.c 1 rfl; have rf1 := R0.f 1 rfl; have rc2 := R0.c 2 rfl; have rf2 := R0.f 2 rfl; have rc3 := R0.c 3 rfl; have rf3 := R0.f 3 rfl; have rc4 := R0.c 4 rfl; have rf4 := R0.f 4 rfl; have rc5 := R0.c 5 rfl; have rf5 := R0.f 5 rfl; have rc6 := R0.c 6 rfl; have rf6 := R0.f 6 rfl; have rc7 := R0.c 7 rfl; have rf7 := R0.f 7 rfl; have rc8 := R0.c 8 rfl; have rf8 := R0.f 8 rfl; have rc9 := R0.c 9 rfl; have rf9 := R0.f 9 rfl; have rc10 := R0.c 10 rfl; have rf10 := R0.f 10 rfl; have rc11 := R0.c 11 rfl; have rf11 := R0.f 11 rfl; have rl := R0.lt
  have hne : w.heap.size + 1 + 1 ≠ w.heap.size + 1 := by omega
  clear R0 O0 X0
  go_wp2
  refine bodyPost_ret (v := PV x y z) (by simp [results, Try.results18, go_sem, rc0, rc1, rc2, rc3, rc4, rc5, rc6, rc7, rc8, rc9, rc10, rc11]) rfl ?_
  refine ⟨rfl, ?_⟩
  repeat' (refine Below.setCell ?_ (by simp; try omega) _)
  exact HB
abbrev Wu (x : Int) : Prop := (Lit.int .u64 x).wf = true
abbrev WdD {H : Type} (a3 a2 a1 a0 : Int) : DataW H := .agg [.lit (.int .u64 a3), .lit (.int .u64 a2), .lit (.int .u64 a1), .lit (.int .u64 a0)]
abbrev PtD {H : Type} (x y z : Int) : DataW H := .agg [WdD (ww3 x) (ww2 x) (ww1 x) (ww0 x), WdD (ww3 y) (ww2 y) (ww1 y) (ww0 y), WdD (ww3 z) (ww2 z) (ww1 z) (ww0 z)]
theorem Try.cellsPoint : Try.prog.cellsOf 26 = 12 := by kernel_rfl
theorem array12 (T : Array Value) (h : T.size = 12) : ∃ v0 v1 v2 v3 v4 v5 v6 v7 v8 v9 v10 v11 : Value, T = #[v0, v1, v2, v3, v4, v5, v6, v7, v8, v9, v10, v11] := by
  match T, h with
  | ⟨[v0, v1, v2, v3, v4, v5, v6, v7, v8, v9, v10, v11]⟩, _ => exact ⟨v0, v1, v2, v3, v4, v5, v6, v7, v8, v9, v10, v11, rfl⟩
theorem trod_wide {H : Type} {enc : TypeId × Value → H} {w : World} {base : Nat} {spare : TypeId → Bool} {held : Bool} {n : Nat} {c0 c1 c2 c3 : Value} {y : DataW H × List MemPlace} (h : DataW.trod enc Try.prog w base spare held n 24 [c0, c1, c2, c3] = some y) :
    ∃ z : Int, told z = true ∧ c0 = .int .u64 (ww3 z) ∧ c1 = .int .u64 (ww2 z) ∧ c2 = .int .u64 (ww1 z) ∧ c3 = .int .u64 (ww0 z) ∧ y = (WdD (ww3 z) (ww2 z) (ww1 z) (ww0 z), []) := by
  obtain ⟨y0, y1, y2, y3, m, hx, _, h0, h1, h2, h3⟩ := trod_struct4 Try.underlying24 h
  obtain ⟨a, e0, rfl, wa⟩ := DataW.trod_int Try.underlying22 h0
  obtain ⟨b, e1, rfl, wb⟩ := DataW.trod_int Try.underlying22 h1
  obtain ⟨c, e2, rfl, wc⟩ := DataW.trod_int Try.underlying22 h2
  obtain ⟨d, e3, rfl, wd⟩ := DataW.trod_int Try.underlying22 h3
  have k : Try.prog.cellsOf 22 = 1 := by kernel_rfl
  simp [k] at e0 e1 e2 e3
  have ha := word_of_wf wa; have hb := word_of_wf wb; have hc := word_of_wf wc; have hd := word_of_wf wd
  obtain ⟨f3, f2, f1, f0⟩ := wd_of ha hb hc hd rfl
  have ht : told (sw a b c d) = true := by
    unfold told
    apply decide_eq_true
    unfold Word sw uw at *
    split <;> omega
  exact ⟨sw a b c d, ht, e0.trans (congrArg _ f3), e1.trans (congrArg _ f2), e2.trans (congrArg _ f1), e3.trans (congrArg _ f0), by rw [← f3, ← f2, ← f1, ← f0]; exact hx⟩
theorem wu_of {z : Int} (h : Word z) : Wu z := by
  obtain ⟨h0, h1⟩ := h
  show (Lit.int .u64 z).wf = true
  simp [Lit.wf, IntKind.min, IntKind.max, IntKind.signed, IntKind.bits]
  omega
theorem shut_wide' {H : Type} {enc : TypeId × Value → H} {w : World} {base : Nat} {spare : TypeId → Bool} {held : Bool} (z : Int) : DataW.Trod enc Try.prog w base spare held 24 (W4 z) (WdD (ww3 z) (ww2 z) (ww1 z) (ww0 z)) [] := by
  obtain ⟨p3, p2, p1, p0⟩ := ww_words z
  exact shut_wide (wu_of p3) (wu_of p2) (wu_of p1) (wu_of p0)
set_option maxRecDepth 100000 in
theorem open_point {H : Type} {enc : TypeId × Value → H} {w : World} {b0' : Nat} {v : Value} {d : DataW H} {p : List MemPlace} (hv : Value.okWide Try.prog w .any b0' 26 v) (h : DataW.Trod enc Try.prog w 0 (fun _ => true) true 26 v d p) :
    ∃ x y z : Int, v = PV x y z ∧ d = PtD x y z ∧ p = [] ∧ told x = true ∧ told y = true ∧ told z = true := by
  obtain ⟨cs, rfl, hsz⟩ := okWide_struct Try.underlying26 hv
  obtain ⟨c0, c1, c2, c3, c4, c5, c6, c7, c8, c9, c10, c11, rfl⟩ := array12 cs (hsz.trans Try.cellsPoint)
  obtain ⟨fuel, hf⟩ := h
  obtain ⟨y0, y1, y2, n, hx, _, h0, h1, h2⟩ := Go.Deep.trod_struct3 Try.underlying26 hf
  simp [Value.cells, Try.cells28] at h0 h1 h2
  obtain ⟨x, tx, rfl, rfl, rfl, rfl, rfl⟩ := trod_wide h0
  obtain ⟨y, ty, rfl, rfl, rfl, rfl, rfl⟩ := trod_wide h1
  obtain ⟨z, tz, rfl, rfl, rfl, rfl, rfl⟩ := trod_wide h2
  simp only [Prod.mk.injEq] at hx
  exact ⟨x, y, z, rfl, hx.1, by simpa using hx.2, tx, ty, tz⟩
theorem shut_point {H : Type} {enc : TypeId × Value → H} {w : World} {base : Nat} {spare : TypeId → Bool} {held : Bool} (x y z : Int) :
    DataW.Trod enc Try.prog w base spare held 26 (PV x y z) (PtD x y z) [] := by
  obtain ⟨n0, t0⟩ := shut_wide' (enc := enc) (w := w) (base := base) (spare := spare) (held := held) x
  obtain ⟨n1, t1⟩ := shut_wide' (enc := enc) (w := w) (base := base) (spare := spare) (held := held) y
  obtain ⟨n2, t2⟩ := shut_wide' (enc := enc) (w := w) (base := base) (spare := spare) (held := held) z
  have ts := Go.Deep.trod_struct3_mk (enc := enc) (w := w) (base := base) (spare := spare) (held := held) (n := max n0 (max n1 n2)) (cs := [.int .u64 (ww3 x), .int .u64 (ww2 x), .int .u64 (ww1 x), .int .u64 (ww0 x), .int .u64 (ww3 y), .int .u64 (ww2 y), .int .u64 (ww1 y), .int .u64 (ww0 y), .int .u64 (ww3 z), .int .u64 (ww2 z), .int .u64 (ww1 z), .int .u64 (ww0 z)]) Try.underlying26 (by simp [Try.cellsPoint])
    (by simpa [Value.cells, Try.cells28] using DataW.trod_le (by omega) t0) (by simpa [Value.cells, Try.cells28] using DataW.trod_le (by omega) t1) (by simpa [Value.cells, Try.cells28] using DataW.trod_le (by omega) t2)
  exact ⟨_, by simpa [Value.cells] using ts⟩
end Go.Proofs.Ytckbhihdhcgaeaa

/- A spot as a point: the walks of the model's point, of the program's, and of the law. -/
namespace Go.Proofs.Ytckbhihdhcgaeaa
open Go.RowKit
def SpotP (x y : Int) (w : World) (e : Ending) (w' : World) : Prop := e = .returned (.agg #[.int .i64 x, .int .i64 y]) ∧ Below w.heap.size w w'
theorem toSpot_any (x y : Int) (w : World) : Calls Try.prog 43 #[.agg #[.int .i64 x, .int .i64 y]] w (SpotP x y w) := by
  go_enter Try.func43, Try.ntmps43
  go_wp2
  refine bodyPost_ret (v := .agg #[.int .i64 x, .int .i64 y]) (by simp [results, Try.results43, go_sem]) rfl ?_
  exact ⟨rfl, (((Below.refl _ _).alloc (Nat.le_refl _) _).alloc (by simp) _).alloc (by simp; omega) _⟩
end Go.Proofs.Ytckbhihdhcgaeaa

/- Spots and segments beside points: the walks of their rightness, by the model and by the program. -/
namespace Go.Proofs.Ytckbhihdhcgaeaa
open Go.RowKit
abbrev Sp (x y : Int) : Value := .agg #[.int .i64 x, .int .i64 y]
def spotOk (x y : Int) : Bool := decide (-1000000 ≤ x ∧ x ≤ 1000000 ∧ -1000000 ≤ y ∧ y ≤ 1000000)
theorem l1In_any (x a b : Int) (c : Bool) (hc : decide (a ≤ x ∧ x ≤ b) = c) (w : World) : Calls Try.prog 110 #[.int .i64 x, .int .i64 a, .int .i64 b] w (BoolP c w) := by
  go_enter Try.func110, Try.ntmps110
  go_wp2
  all_goals go_ret
  all_goals exact ⟨ret_bool (by subst hc; simp; try omega), Below.refl _ _⟩
theorem implSpotOk_any (x y : Int) (c : Bool) (hc : spotOk x y = c) (w : World) : Calls Try.prog 99 #[Sp x y] w (BoolP c w) := by
  go_enter Try.func99, Try.ntmps99
  go_wp2
  all_goals go_ret
  all_goals exact ⟨ret_bool (by subst hc; unfold spotOk; simp [*]; try omega), (Below.refl _ _).alloc (Nat.le_refl _) _⟩
theorem specSpotOk_any (x y : Int) (c : Bool) (hc : spotOk x y = c) (w : World) : Calls Try.prog 97 #[Sp x y] w (BoolP c w) := by
  by_cases hx : -1000000 ≤ x ∧ x ≤ 1000000
  · go_enter Try.func97, Try.ntmps97
    go_wp2_with fail
    refine (l1In_any _ _ _ true (by simpa using hx) _).mono ?_
    rintro e w1 ⟨rfl, hB⟩
    obtain ⟨hq, _⟩ := bcell hB
    have HB : Below w.heap.size w w1 := ((Below.refl _ _).alloc (Nat.le_refl _) _).trans (hB.mono (by simp))
    clear hB
    go_wp2_with fail
    refine (l1In_any _ _ _ c (by subst hc; unfold spotOk; simp [hx]) _).mono ?_
    rintro e w2 ⟨rfl, hB⟩
    go_wp2
    go_ret
    exact ⟨rfl, HB.trans (hB.mono HB.size)⟩
  · go_enter Try.func97, Try.ntmps97
    go_wp2_with fail
    refine (l1In_any _ _ _ false (by simpa using hx) _).mono ?_
    rintro e w1 ⟨rfl, hB⟩
    have HB : Below w.heap.size w w1 := ((Below.refl _ _).alloc (Nat.le_refl _) _).trans (hB.mono (by simp))
    clear hB
    go_wp2
    go_ret
    exact ⟨ret_bool (by subst hc; unfold spotOk; simp; omega), HB⟩
def lessI (x y u v : Int) : Bool := decide (x < u ∨ x = u ∧ y < v)
theorem l4Less_any (x y u v : Int) (c : Bool) (hc : lessI x y u v = c) (w : World) : Calls Try.prog 141 #[Sp x y, Sp u v] w (BoolP c w) := by
  go_enter Try.func141, Try.ntmps141
  go_wp2
  all_goals go_ret
  all_goals exact ⟨ret_bool (by subst hc; unfold lessI; simp [*]; try omega), ((Below.refl _ _).alloc (Nat.le_refl _) _).alloc (by simp) _⟩
theorem isAhead_any (x y u v : Int) (c : Bool) (hc : lessI x y u v = c) (w : World) : Calls Try.prog 142 #[Sp x y, Sp u v] w (BoolP c w) := by
  go_enter Try.func142, Try.ntmps142
  go_wp2
  all_goals go_ret
  all_goals exact ⟨ret_bool (by subst hc; unfold lessI; simp [*]; try omega), ((Below.refl _ _).alloc (Nat.le_refl _) _).alloc (by simp) _⟩
abbrev Sg (a b c d : Int) : Value := .agg #[.int .i64 a, .int .i64 b, .int .i64 c, .int .i64 d]
def SegP (a b c d : Int) (w : World) (e : Ending) (w' : World) : Prop := e = .returned (Sg a b c d) ∧ Below w.heap.size w w'

/-- Four cells of a block, to be written. -/
structure Quad (W : World) (g : Nat) (v0 v1 v2 v3 : Value) : Prop where
  c0 : W.cell? ⟨g, 0, none⟩ = some v0
  c1 : W.cell? ⟨g, 1, none⟩ = some v1
  c2 : W.cell? ⟨g, 2, none⟩ = some v2
  c3 : W.cell? ⟨g, 3, none⟩ = some v3
  f0 : W.frozen? ⟨g, 0, none⟩ = false
  f1 : W.frozen? ⟨g, 1, none⟩ = false
  f2 : W.frozen? ⟨g, 2, none⟩ = false
  f3 : W.frozen? ⟨g, 3, none⟩ = false
  lt : g < W.heap.size
theorem Quad.below {W W' : World} {B g : Nat} {v0 v1 v2 v3 : Value} (h : Quad W g v0 v1 v2 v3) (hB : Below B W W') (hg : g < B) : Quad W' g v0 v1 v2 v3 :=
  ⟨(hB.cell (p := ⟨g, 0, none⟩) hg).trans h.c0, (hB.cell (p := ⟨g, 1, none⟩) hg).trans h.c1, (hB.cell (p := ⟨g, 2, none⟩) hg).trans h.c2, (hB.cell (p := ⟨g, 3, none⟩) hg).trans h.c3,
   (hB.frozen (p := ⟨g, 0, none⟩) hg).trans h.f0, (hB.frozen (p := ⟨g, 1, none⟩) hg).trans h.f1, (hB.frozen (p := ⟨g, 2, none⟩) hg).trans h.f2, (hB.frozen (p := ⟨g, 3, none⟩) hg).trans h.f3, Nat.lt_of_lt_of_le h.lt hB.size⟩
theorem Quad.alloc {W : World} {g : Nat} {v0 v1 v2 v3 : Value} (h : Quad W g v0 v1 v2 v3) (o : Obj) : Quad (W.alloc o) g v0 v1 v2 v3 := h.below ((Below.refl W.heap.size W).alloc (Nat.le_refl _) o) h.lt
theorem Quad.new (W : World) (v0 v1 v2 v3 : Value) (t : TypeId) {g : Nat} (hg : g = W.heap.size) : Quad (W.alloc (.cells #[v0, v1, v2, v3] t)) g v0 v1 v2 v3 := by
  subst hg
  constructor <;> simp [go_sem]
set_option maxRecDepth 100000 in
set_option maxHeartbeats 400000 in
theorem toSeg_any (a b c d : Int) (w : World) : Calls Try.prog 36 #[Sg a b c d] w (SegP a b c d w) := by
  go_enter Try.func36, Try.ntmps36
  go_wp2_with fail
  refine (toSpot_any _ _ _).mono ?_
  rintro e w1 ⟨rfl, hB⟩
  have hz := hB.size
  have HB : Below w.heap.size w w1 := ((((Below.refl _ _).alloc (Nat.le_refl _) _).alloc (by simp) _).alloc (by simp; omega) _).trans (hB.mono (by simp; omega))
  have q0 : Quad w1 w.heap.size _ _ _ _ := (((Quad.new w (.int .i64 a) (.int .i64 b) (.int .i64 c) (.int .i64 d) _ rfl).alloc _).alloc _).below hB (by simp; omega)
  have q1 : Quad w1 (w.heap.size + 1) _ _ _ _ := ((Quad.new (w.alloc _) (.int .i64 0) (.int .i64 0) (.int .i64 0) (.int .i64 0) _ (by simp)).alloc _).below hB (by simp)
  have q2 : Quad w1 (w.heap.size + 1 + 1) _ _ _ _ := (Quad.new ((w.alloc _).alloc _) (.int .i64 0) (.int .i64 0) (.int .i64 0) (.int .i64 0) _ (by simp)).below hB (by simp)
  clear hB
  simp at hz
  obtain ⟨q00, q01, q02, q03, -, -, -, -, q08⟩ := id q0
  obtain ⟨q20, q21, q22, q23, q24, q25, q26, q27, q28⟩ := id q2
  go_wp2_with fail
  refine (toSpot_any _ _ _).mono ?_
  rintro e w2 ⟨rfl, hB⟩
  have HB2 : Below w.heap.size w w2 := ((HB.setCell (p := ⟨w.heap.size + 2, 0, none⟩) (by simp) _).setCell (p := ⟨w.heap.size + 2, 1, none⟩) (by simp) _).trans (hB.mono (by have := HB.size; simpa [World.setCell] using this))
  have r2 : Quad w2 (w.heap.size + 1 + 1) (.int .i64 a) (.int .i64 b) (.int .i64 0) (.int .i64 0) := Quad.below (by constructor <;> simp [go_sem, q20, q21, q22, q23, q24, q25, q26, q27]; try exact q28) hB (by simpa [World.setCell] using q28)
  have r1 : Quad w2 (w.heap.size + 1) (.int .i64 0) (.int .i64 0) (.int .i64 0) (.int .i64 0) := Quad.below (by constructor <;> simp [go_sem, q1.c0, q1.c1, q1.c2, q1.c3, q1.f0, q1.f1, q1.f2, q1.f3]; try exact q1.lt) hB (by simpa [World.setCell] using q1.lt)
  clear hB HB q0 q1 q2 q00 q01 q02 q03 q08 q20 q21 q22 q23 q24 q25 q26 q27 q28
  obtain ⟨q10, q11, q12, q13, q14, q15, q16, q17, q18⟩ := id r1
  obtain ⟨q20, q21, q22, q23, q24, q25, q26, q27, q28⟩ := id r2
  go_wp2
  refine bodyPost_ret (v := Sg a b c d) (by simp [results, Try.results36, go_sem, q10, q11, q12, q13]) rfl ?_
  refine ⟨rfl, ?_⟩
  repeat' (first | (refine Below.setCell ?_ (by simp; try omega) _))
  exact HB2
def segOk (a b c d : Int) : Bool := spotOk a b && spotOk c d && lessI a b c d
set_option maxRecDepth 100000 in
theorem specSegOk_any (a b c d : Int) (z : Bool) (hz : segOk a b c d = z) (w : World) : Calls Try.prog 90 #[Sg a b c d] w (BoolP z w) := by
  have HB0 : Below w.heap.size w (w.alloc (.cells #[.int .i64 a, .int .i64 b, .int .i64 c, .int .i64 d] 56)) := (Below.refl _ _).alloc (Nat.le_refl _) _
  by_cases hx : spotOk a b = true
  · by_cases hy : spotOk c d = true
    · go_enter Try.func90, Try.ntmps90
      go_wp2_with fail
      refine (specSpotOk_any _ _ true hx _).mono ?_
      rintro e w1 ⟨rfl, hB⟩
      have HB : Below w.heap.size w w1 := HB0.trans (hB.mono (by simp))
      have q0 : Quad w1 w.heap.size _ _ _ _ := (Quad.new w (.int .i64 a) (.int .i64 b) (.int .i64 c) (.int .i64 d) _ rfl).below hB (by simp)
      obtain ⟨q00, q01, q02, q03, -, -, -, -, q08⟩ := id q0
      clear hB
      go_wp2_with fail
      refine (specSpotOk_any _ _ true hy _).mono ?_
      rintro e w2 ⟨rfl, hB⟩
      have HB2 : Below w.heap.size w w2 := HB.trans (hB.mono HB.size)
      have q2 := q0.below hB q0.lt
      clear q00 q01 q02 q03 q08
      obtain ⟨q00, q01, q02, q03, -, -, -, -, q08⟩ := q2
      clear hB HB
      go_wp2_with fail
      refine (l4Less_any _ _ _ _ z (by rw [← hz]; simp [segOk, hx, hy]) _).mono ?_
      rintro e w3 ⟨rfl, hB⟩
      go_wp2
      go_ret
      exact ⟨rfl, HB2.trans (hB.mono HB2.size)⟩
    · have hy := Bool.eq_false_iff.2 hy
      go_enter Try.func90, Try.ntmps90
      go_wp2_with fail
      refine (specSpotOk_any _ _ true hx _).mono ?_
      rintro e w1 ⟨rfl, hB⟩
      have HB : Below w.heap.size w w1 := HB0.trans (hB.mono (by simp))
      have q0 : Quad w1 w.heap.size _ _ _ _ := (Quad.new w (.int .i64 a) (.int .i64 b) (.int .i64 c) (.int .i64 d) _ rfl).below hB (by simp)
      obtain ⟨q00, q01, q02, q03, -, -, -, -, q08⟩ := id q0
      clear hB
      go_wp2_with fail
      refine (specSpotOk_any _ _ false hy _).mono ?_
      rintro e w2 ⟨rfl, hB⟩
      have HB2 : Below w.heap.size w w2 := HB.trans (hB.mono HB.size)
      clear hB HB
      go_wp2
      go_ret
      exact ⟨ret_bool (by rw [← hz]; simp [segOk, hx, hy]), HB2⟩
  · have hx := Bool.eq_false_iff.2 hx
    go_enter Try.func90, Try.ntmps90
    go_wp2_with fail
    refine (specSpotOk_any _ _ false hx _).mono ?_
    rintro e w1 ⟨rfl, hB⟩
    have HB : Below w.heap.size w w1 := HB0.trans (hB.mono (by simp))
    clear hB
    go_wp2
    go_ret
    exact ⟨ret_bool (by rw [← hz]; simp [segOk, hx]), HB⟩
set_option maxRecDepth 100000 in
theorem implSegOk_any (a b c d : Int) (z : Bool) (hz : segOk a b c d = z) (w : World) : Calls Try.prog 92 #[Sg a b c d] w (BoolP z w) := by
  have HB0 : Below w.heap.size w (w.alloc (.cells #[.int .i64 a, .int .i64 b, .int .i64 c, .int .i64 d] 56)) := (Below.refl _ _).alloc (Nat.le_refl _) _
  by_cases hx : spotOk a b = true
  · by_cases hy : spotOk c d = true
    · go_enter Try.func92, Try.ntmps92
      go_wp2_with fail
      refine (implSpotOk_any _ _ true hx _).mono ?_
      rintro e w1 ⟨rfl, hB⟩
      have HB : Below w.heap.size w w1 := HB0.trans (hB.mono (by simp))
      have q0 : Quad w1 w.heap.size _ _ _ _ := (Quad.new w (.int .i64 a) (.int .i64 b) (.int .i64 c) (.int .i64 d) _ rfl).below hB (by simp)
      obtain ⟨q00, q01, q02, q03, -, -, -, -, q08⟩ := id q0
      clear hB
      go_wp2_with fail
      refine (implSpotOk_any _ _ true hy _).mono ?_
      rintro e w2 ⟨rfl, hB⟩
      have HB2 : Below w.heap.size w w2 := HB.trans (hB.mono HB.size)
      have q2 := q0.below hB q0.lt
      clear q00 q01 q02 q03 q08
      obtain ⟨q00, q01, q02, q03, -, -, -, -, q08⟩ := q2
      clear hB HB
      go_wp2_with fail
      refine (isAhead_any _ _ _ _ z (by rw [← hz]; simp [segOk, hx, hy]) _).mono ?_
      rintro e w3 ⟨rfl, hB⟩
      go_wp2
      go_ret
      exact ⟨rfl, HB2.trans (hB.mono HB2.size)⟩
    · have hy := Bool.eq_false_iff.2 hy
      go_enter Try.func92, Try.ntmps92
      go_wp2_with fail
      refine (implSpotOk_any _ _ true hx _).mono ?_
      rintro e w1 ⟨rfl, hB⟩
      have HB : Below w.heap.size w w1 := HB0.trans (hB.mono (by simp))
      have q0 : Quad w1 w.heap.size _ _ _ _ := (Quad.new w (.int .i64 a) (.int .i64 b) (.int .i64 c) (.int .i64 d) _ rfl).below hB (by simp)
      obtain ⟨q00, q01, q02, q03, -, -, -, -, q08⟩ := id q0
      clear hB
      go_wp2_with fail
      refine (implSpotOk_any _ _ false hy _).mono ?_
      rintro e w2 ⟨rfl, hB⟩
      have HB2 : Below w.heap.size w w2 := HB.trans (hB.mono HB.size)
      clear hB HB
      go_wp2
      go_ret
      exact ⟨ret_bool (by rw [← hz]; simp [segOk, hx, hy]), HB2⟩
  · have hx := Bool.eq_false_iff.2 hx
    go_enter Try.func92, Try.ntmps92
    go_wp2_with fail
    refine (implSpotOk_any _ _ false hx _).mono ?_
    rintro e w1 ⟨rfl, hB⟩
    have HB : Below w.heap.size w w1 := HB0.trans (hB.mono (by simp))
    clear hB
    go_wp2
    go_ret
    exact ⟨ret_bool (by rw [← hz]; simp [segOk, hx]), HB⟩
end Go.Proofs.Ytckbhihdhcgaeaa

/- The ends of a segment as points: the program's walk. -/
namespace Go.Proofs.Ytckbhihdhcgaeaa
open Go.RowKit
theorem Blk.set12 {W : World} {vs : List Value} {v0 v1 v2 v3 v4 v5 v6 v7 v8 v9 v10 v11 : Value} {g g' : Nat} (G : Blk W g' vs) (hg : g' ≠ g) : Blk ((((((((((((W.setCell ⟨g, 0, none⟩ v0).setCell ⟨g, 1, none⟩ v1).setCell ⟨g, 2, none⟩ v2).setCell ⟨g, 3, none⟩ v3).setCell ⟨g, 4, none⟩ v4).setCell ⟨g, 5, none⟩ v5).setCell ⟨g, 6, none⟩ v6).setCell ⟨g, 7, none⟩ v7).setCell ⟨g, 8, none⟩ v8).setCell ⟨g, 9, none⟩ v9).setCell ⟨g, 10, none⟩ v10).setCell ⟨g, 11, none⟩ v11) g' vs :=
  (((((((((((G.setO hg v0).setO hg v1).setO hg v2).setO hg v3).setO hg v4).setO hg v5).setO hg v6).setO hg v7).setO hg v8).setO hg v9).setO hg v10).setO hg v11
theorem Blk.stored12 {W : World} {g : Nat} {z0 z1 z2 z3 z4 z5 z6 z7 z8 z9 z10 z11 : Value} (G : Blk W g [z0, z1, z2, z3, z4, z5, z6, z7, z8, z9, z10, z11]) (v0 v1 v2 v3 v4 v5 v6 v7 v8 v9 v10 v11 : Value) : Blk ((((((((((((W.setCell ⟨g, 0, none⟩ v0).setCell ⟨g, 1, none⟩ v1).setCell ⟨g, 2, none⟩ v2).setCell ⟨g, 3, none⟩ v3).setCell ⟨g, 4, none⟩ v4).setCell ⟨g, 5, none⟩ v5).setCell ⟨g, 6, none⟩ v6).setCell ⟨g, 7, none⟩ v7).setCell ⟨g, 8, none⟩ v8).setCell ⟨g, 9, none⟩ v9).setCell ⟨g, 10, none⟩ v10).setCell ⟨g, 11, none⟩ v11) g [v0, v1, v2, v3, v4, v5, v6, v7, v8, v9, v10, v11] :=
  (((((((((((G.setI 0 (by simp) v0).setI 1 (by simp) v1).setI 2 (by simp) v2).setI 3 (by simp) v3).setI 4 (by simp) v4).setI 5 (by simp) v5).setI 6 (by simp) v6).setI 7 (by simp) v7).setI 8 (by simp) v8).setI 9 (by simp) v9).setI 10 (by simp) v10).setI 11 (by simp) v11
theorem Below.set12 {B g : Nat} {w W : World} {v0 v1 v2 v3 v4 v5 v6 v7 v8 v9 v10 v11 : Value} (hg : B ≤ g) (h : Below B w W) : Below B w ((((((((((((W.setCell ⟨g, 0, none⟩ v0).setCell ⟨g, 1, none⟩ v1).setCell ⟨g, 2, none⟩ v2).setCell ⟨g, 3, none⟩ v3).setCell ⟨g, 4, none⟩ v4).setCell ⟨g, 5, none⟩ v5).setCell ⟨g, 6, none⟩ v6).setCell ⟨g, 7, none⟩ v7).setCell ⟨g, 8, none⟩ v8).setCell ⟨g, 9, none⟩ v9).setCell ⟨g, 10, none⟩ v10).setCell ⟨g, 11, none⟩ v11) :=
  (((((((((((h.setCell (p := ⟨g, 0, none⟩) hg _).setCell (p := ⟨g, 1, none⟩) hg _).setCell (p := ⟨g, 2, none⟩) hg _).setCell (p := ⟨g, 3, none⟩) hg _).setCell (p := ⟨g, 4, none⟩) hg _).setCell (p := ⟨g, 5, none⟩) hg _).setCell (p := ⟨g, 6, none⟩) hg _).setCell (p := ⟨g, 7, none⟩) hg _).setCell (p := ⟨g, 8, none⟩) hg _).setCell (p := ⟨g, 9, none⟩) hg _).setCell (p := ⟨g, 10, none⟩) hg _).setCell (p := ⟨g, 11, none⟩) hg _
end Go.Proofs.Ytckbhihdhcgaeaa

/- How spots and segments read as data, beside points: opened and shut. -/
namespace Go.Proofs.Ytckbhihdhcgaeaa
open Go.ChangeShapes Go.WideShapes Go.ChangeAt Go.RowKit Go.Joins
theorem Try.cellsSpot : Try.prog.cellsOf 50 = 2 := by kernel_rfl
theorem Try.cellsSeg : Try.prog.cellsOf 52 = 4 := by kernel_rfl
abbrev Wf (x : Int) : Prop := (Lit.int .i64 x).wf = true
abbrev SpD {H : Type} (x y : Int) : DataW H := .agg [.lit (.int .i64 x), .lit (.int .i64 y)]
set_option maxRecDepth 100000 in
theorem open_spot {H : Type} {enc : TypeId × Value → H} {w : World} {b0 : Nat} {v : Value} {d : DataW H} {p : List MemPlace} (hv : Value.okWide Try.prog w .any b0 50 v) (h : DataW.Trod enc Try.prog w 0 (fun _ => true) true 50 v d p) :
    ∃ x y : Int, v = .agg #[.int .i64 x, .int .i64 y] ∧ d = SpD x y ∧ p = [] ∧ Wf x ∧ Wf y := by
  obtain ⟨c0, c1, y0, y1, m, rfl, rfl, rfl, hy0, hy1⟩ := open_agg2 Try.underlying50 (by kernel_rfl) Try.cellsSpot hv h
  obtain ⟨a, e0, rfl, wa⟩ := DataW.trod_int Try.underlying2 hy0
  obtain ⟨b, e1, rfl, wb⟩ := DataW.trod_int Try.underlying2 hy1
  simp at e0 e1
  subst e0 e1
  exact ⟨a, b, rfl, rfl, rfl, wa, wb⟩
theorem shut_spot {H : Type} {enc : TypeId × Value → H} {w : World} {base : Nat} {spare : TypeId → Bool} {held : Bool} {x y : Int} (wx : Wf x) (wy : Wf y) :
    DataW.Trod enc Try.prog w base spare held 50 (.agg #[.int .i64 x, .int .i64 y]) (SpD x y) [] :=
  shut_agg2 (y0 := (.lit (.int .i64 x), [])) (y1 := (.lit (.int .i64 y), [])) Try.underlying50 (by kernel_rfl) Try.cellsSpot
    ⟨1, by simp [DataW.trod, Try.underlying2, wx]⟩ ⟨1, by simp [DataW.trod, Try.underlying2, wy]⟩
theorem trod_spot {H : Type} {enc : TypeId × Value → H} {w : World} {base : Nat} {spare : TypeId → Bool} {held : Bool} {n : Nat} {c0 c1 : Value} {y : DataW H × List MemPlace} (h : DataW.trod enc Try.prog w base spare held n 50 [c0, c1] = some y) :
    ∃ a b : Int, c0 = .int .i64 a ∧ c1 = .int .i64 b ∧ y = (SpD a b, []) ∧ Wf a ∧ Wf b := by
  obtain ⟨y0, y1, m, hx, _, h0, h1⟩ := trod_struct2 Try.underlying50 h
  obtain ⟨a, e0, rfl, wa⟩ := DataW.trod_int Try.underlying2 h0
  obtain ⟨b, e1, rfl, wb⟩ := DataW.trod_int Try.underlying2 h1
  have k : Try.prog.cellsOf 2 = 1 := by kernel_rfl
  simp [k] at e0 e1
  exact ⟨a, b, e0, e1, hx, wa, wb⟩
set_option maxRecDepth 100000 in
theorem open_seg {H : Type} {enc : TypeId × Value → H} {w : World} {b0 : Nat} {v : Value} {d : DataW H} {p : List MemPlace} (hv : Value.okWide Try.prog w .any b0 52 v) (h : DataW.Trod enc Try.prog w 0 (fun _ => true) true 52 v d p) :
    ∃ a b c e : Int, v = .agg #[.int .i64 a, .int .i64 b, .int .i64 c, .int .i64 e] ∧ d = .agg [SpD a b, SpD c e] ∧ p = [] ∧ Wf a ∧ Wf b ∧ Wf c ∧ Wf e := by
  obtain ⟨cs, rfl, hsz⟩ := okWide_struct Try.underlying52 hv
  obtain ⟨c0, c1, c2, c3, rfl⟩ := array4 (hsz.trans Try.cellsSeg)
  obtain ⟨fuel, hf⟩ := h
  obtain ⟨y0, y1, n, hx, _, h0, h1⟩ := trod_struct2 Try.underlying52 hf
  simp [Value.cells, Try.cellsSpot] at h0 h1
  obtain ⟨a, b, rfl, rfl, rfl, wa, wb⟩ := trod_spot h0
  obtain ⟨c, e, rfl, rfl, rfl, wc, we⟩ := trod_spot h1
  simp only [Prod.mk.injEq] at hx
  exact ⟨a, b, c, e, rfl, hx.1, by simpa using hx.2, wa, wb, wc, we⟩
theorem shut_seg {H : Type} {enc : TypeId × Value → H} {w : World} {base : Nat} {spare : TypeId → Bool} {held : Bool} {a b c e : Int} (wa : Wf a) (wb : Wf b) (wc : Wf c) (we : Wf e) :
    DataW.Trod enc Try.prog w base spare held 52 (.agg #[.int .i64 a, .int .i64 b, .int .i64 c, .int .i64 e]) (.agg [SpD a b, SpD c e]) [] := by
  obtain ⟨n0, t0⟩ := shut_spot (enc := enc) (w := w) (base := base) (spare := spare) (held := held) wa wb
  obtain ⟨n1, t1⟩ := shut_spot (enc := enc) (w := w) (base := base) (spare := spare) (held := held) wc we
  have ts := trod_struct2_mk (enc := enc) (w := w) (base := base) (spare := spare) (held := held) (n := max n0 n1) (cs := [.int .i64 a, .int .i64 b, .int .i64 c, .int .i64 e]) Try.underlying52 (by simp [Try.cellsSeg])
    (by simpa [Value.cells, Try.cellsSpot] using DataW.trod_le (Nat.le_max_left n0 n1) t0) (by simpa [Value.cells, Try.cellsSpot] using DataW.trod_le (Nat.le_max_right n0 n1) t1)
  exact ⟨_, by simpa [Value.cells] using ts⟩
end Go.Proofs.Ytckbhihdhcgaeaa

/- What the row of a law asks of the program as a whole, each by itself. -/
namespace Go.Proofs.Ytckbhihdhcgaeaa
open Go.ChangeShapes Go.WideShapes Go.ChangeAt Go.RowKit Go.Joins
theorem jn_laid : laidOutB Try.pinned.checked.prog = true := by kernel_rfl
theorem jn_maps : mapsRowed Try.pinned.checked.prog = true := by kernel_rfl
theorem jn_enter : Try.pinned.checked.prog.mayEnter = true := by kernel_rfl
theorem jn_heard : Try.pinned.checked.prog.stopsHeard = true := by kernel_rfl
end Go.Proofs.Ytckbhihdhcgaeaa
