/- Part 14 of the walks that the proof leans on. -/
import Derived.Test.YtpnnpkchogooaaaGreatPart13
import Derived.Test.YtpnnpkchogooaaaGreatPart9
import Derived.Test.YtpnnpkchogooaaaGreatPart4
import Derived.Test.YtpnnpkchogooaaaGreatPart6
set_option maxRecDepth 100000
set_option maxHeartbeats 8000000
namespace Go.Proofs.YtpnnpkchogooaaaGreat
open Go.RowKit
def SgSgP (w : World) (e : Ending) (w' : World) : Prop := ∃ a b c d p q u v : Int, e = .returned (.tuple #[.agg #[.int .i64 a, .int .i64 b, .int .i64 c, .int .i64 d], .agg #[.int .i64 p, .int .i64 q, .int .i64 u, .int .i64 v]]) ∧ (I64 a ∧ I64 b ∧ I64 c ∧ I64 d) ∧ (I64 p ∧ I64 q ∧ I64 u ∧ I64 v) ∧ Below w.heap.size w w'
theorem i64_nil : I64 0 := by constructor <;> decide
theorem drawMeet_any (ao : Option Addr) (n cap : Nat) (cs : List Int) (w : World) (h : Code w ao n cs) : Calls Tryz.prog 17 #[.slice ao n cap] w (SgSgP w) := by
 have B0 := (Blk.new w [.int .i64 0, .int .i64 0, .int .i64 0, .int .i64 0] 27 rfl).alloc (.cells #[.int .i64 0, .int .i64 0, .int .i64 0, .int .i64 0] 27)
 have B1 := Blk.new (w.alloc (.cells #[.int .i64 0, .int .i64 0, .int .i64 0, .int .i64 0] 27)) [.int .i64 0, .int .i64 0, .int .i64 0, .int .i64 0] 27 (g := w.heap.size + 1) (by simp)
 rw [show ([.int .i64 0, .int .i64 0, .int .i64 0, .int .i64 0] : List Value).toArray = #[.int .i64 0, .int .i64 0, .int .i64 0, .int .i64 0] from rfl] at B0 B1
 have HB : Below w.heap.size w ((w.alloc (.cells #[.int .i64 0, .int .i64 0, .int .i64 0, .int .i64 0] 27)).alloc (.cells #[.int .i64 0, .int .i64 0, .int .i64 0, .int .i64 0] 27)) := ((Below.refl _ _).alloc (Nat.le_refl _) _).alloc (by simp) _
 replace h := h.below HB
 go_enter Tryz.func17, Tryz.ntmps17
 go_wp2_with fail
 refine (open_any ao n cap cs _ h).mono ?_
 rintro e w1 ⟨g, rfl, hG, R, hB⟩
 simp at hG
 have h0 : w.heap.size ≠ g := by omega
 have h1 : w.heap.size + 1 ≠ g := by omega
 replace B0 := B0.step hB
 replace B1 := B1.step hB
 replace HB : Below w.heap.size w w1 := HB.trans (hB.mono HB.size)
 have gl1 := R.lt
 clear hB h
 go_wp2_with fail
 refine (seg_any g ao n cap cs _ R).mono ?_
 rintro e w2 ⟨_, rfl, ⟨a, b, c, d, rfl, ia, ib, ic, id⟩, R1, K1⟩
 replace B0 := B0.kept K1 h0
 replace B1 := B1.kept K1 h1
 replace HB := HB.trans (K1.below (by omega) HB.size)
 clear R K1
 have R := R1
 clear R1
 have bl := B1.lt
 have gl := R.lt
 have X5 := Blk.new w2 [.int .i64 a, .int .i64 b, .int .i64 c, .int .i64 d] 27 rfl
 rw [show ([.int .i64 a, .int .i64 b, .int .i64 c, .int .i64 d] : List Value).toArray = #[.int .i64 a, .int .i64 b, .int .i64 c, .int .i64 d] from rfl] at X5
 replace R := R.alloc (.cells #[.int .i64 a, .int .i64 b, .int .i64 c, .int .i64 d] 27)
 replace B0 := B0.alloc (.cells #[.int .i64 a, .int .i64 b, .int .i64 c, .int .i64 d] 27)
 replace B1 := B1.alloc (.cells #[.int .i64 a, .int .i64 b, .int .i64 c, .int .i64 d] 27)
 replace HB := HB.alloc HB.size (.cells #[.int .i64 a, .int .i64 b, .int .i64 c, .int .i64 d] 27)
 have h5 : w2.heap.size ≠ g := by omega
 go_wp2_with fail
 refine (seg_any g ao n cap cs _ R).mono ?_
 rintro e w3 ⟨_, rfl, ⟨p, q, u, v, rfl, ip, iq, iu, iv⟩, R1, K1⟩
 replace B0 := B0.kept K1 h0
 replace B1 := B1.kept K1 h1
 replace X5 := X5.kept K1 h5
 replace HB := HB.trans (K1.below (by omega) HB.size)
 clear R K1
 have R := R1
 clear R1
 have x5l := X5.lt
 have X6 := Blk.new w3 [.int .i64 p, .int .i64 q, .int .i64 u, .int .i64 v] 27 rfl
 rw [show ([.int .i64 p, .int .i64 q, .int .i64 u, .int .i64 v] : List Value).toArray = #[.int .i64 p, .int .i64 q, .int .i64 u, .int .i64 v] from rfl] at X6
 replace R := R.alloc (.cells #[.int .i64 p, .int .i64 q, .int .i64 u, .int .i64 v] 27)
 replace B0 := B0.alloc (.cells #[.int .i64 p, .int .i64 q, .int .i64 u, .int .i64 v] 27)
 replace B1 := B1.alloc (.cells #[.int .i64 p, .int .i64 q, .int .i64 u, .int .i64 v] 27)
 replace X5 := X5.alloc (.cells #[.int .i64 p, .int .i64 q, .int .i64 u, .int .i64 v] 27)
 replace HB := HB.alloc HB.size (.cells #[.int .i64 p, .int .i64 q, .int .i64 u, .int .i64 v] 27)
 have h6 : w3.heap.size ≠ g := by omega
 go_wp2_with fail
 refine (once_any 4 (by decide) (by decide) g ao n cap cs _ R).mono ?_
 rintro e w4 ⟨_, rfl, ⟨t, rfl⟩, R1, K1⟩
 replace B0 := B0.kept K1 h0
 replace B1 := B1.kept K1 h1
 replace X5 := X5.kept K1 h5
 replace X6 := X6.kept K1 h6
 replace HB := HB.trans (K1.below (by omega) HB.size)
 clear R K1
 have R := R1
 clear R1
 cases t
 · go_wp2_with fail
   refine (once_any 5 (by decide) (by decide) g ao n cap cs _ R).mono ?_
   rintro e w5 ⟨_, rfl, ⟨t, rfl⟩, R1, K1⟩
   replace B0 := B0.kept K1 h0
   replace B1 := B1.kept K1 h1
   replace X5 := X5.kept K1 h5
   replace X6 := X6.kept K1 h6
   replace HB := HB.trans (K1.below (by omega) HB.size)
   clear R K1
   have R := R1
   clear R1
   cases t
   · skip
     go_upto_region 8 with fail
     refine mbB (R0 := w.heap.size) (R1 := w.heap.size + 1) (A5 := w2.heap.size) (A6 := w3.heap.size) (a := a) (b := b) (c := c) (d := d) (p := p) (q := q) (u := u) (w := v) (by omega) (by omega) (by omega) ia ib ic id ip iq iu iv rfl rfl rfl rfl rfl ⟨X5.drew, X6.drew, ⟨0, 0, 0, 0, i64_nil, i64_nil, i64_nil, i64_nil, B0.drew⟩, 0, 0, 0, 0, i64_nil, i64_nil, i64_nil, i64_nil, B1.drew⟩ ?_
     rintro ⟨tm, df⟩ Wz hz hdf hoff hBz ⟨_, _, ⟨e0, e1, e2, e3, j0, j1, j2, j3, F0⟩, m0, m1, m2, m3, l0, l1, l2, l3, F1⟩
     simp only at hz hdf hoff
     subst hdf
     have htm := tmps_fold [69, 70] tm _ hz hoff
     simp only [List.foldl, List.setIfInBounds_toArray, List.set_cons_zero, List.set_cons_succ] at htm
     clear hz hoff
     generalize tm.getD 69 undef = sk0, tm.getD 70 undef = sk1 at htm
     subst htm
     replace HB := HB.trans hBz
     obtain ⟨o0, o1, o2, o3⟩ := F0.cs4
     obtain ⟨o4, o5, o6, o7⟩ := F1.cs4
     clear B0 B1 X5 X6 F0 F1 hBz
     go_wp2
     refine bodyPost_ret (v := .tuple #[.agg #[.int .i64 e0, .int .i64 e1, .int .i64 e2, .int .i64 e3], .agg #[.int .i64 m0, .int .i64 m1, .int .i64 m2, .int .i64 m3]]) (by simp [results, Tryz.results17, go_sem, o0, o1, o2, o3, o4, o5, o6, o7]) rfl ?_
     exact ⟨e0, e1, e2, e3, m0, m1, m2, m3, rfl, ⟨j0, j1, j2, j3⟩, ⟨l0, l1, l2, l3⟩, HB⟩
   · go_upto_region 7 with fail
     refine mbA (R0 := w.heap.size) (R1 := w.heap.size + 1) (A5 := w2.heap.size) (A6 := w3.heap.size) (G := g) (ao := ao) (n := n) (cap := cap) (cs := cs) (a := a) (b := b) (c := c) (d := d) (by omega) (by omega) (by omega) (by omega) (by omega) ic id rfl rfl rfl rfl ⟨R.drew, X5.drew, B0.drew, B1.drew, p, q, u, v, ip, iq, iu, iv, X6.drew⟩ ?_
     rintro ⟨tm, df⟩ W7 hz hdf hoff hBz ⟨_, X5, B0, B1, p2, q2, u2, v2, ip2, iq2, iu2, iv2, X6⟩
     simp only at hz hdf hoff
     subst hdf
     have htm := tmps_fold [62, 63, 64, 65, 66, 61, 67, 68] tm _ hz hoff
     simp only [List.foldl, List.setIfInBounds_toArray, List.set_cons_zero, List.set_cons_succ] at htm
     clear hz hoff
     generalize tm.getD 62 undef = sl0, tm.getD 63 undef = sl1, tm.getD 64 undef = sl2, tm.getD 65 undef = sl3, tm.getD 66 undef = sl4, tm.getD 61 undef = sl5, tm.getD 67 undef = sl6, tm.getD 68 undef = sl7 at htm
     subst htm
     replace HB := HB.trans hBz
     clear hBz R
     go_upto_region 8 with fail
     refine mbB (R0 := w.heap.size) (R1 := w.heap.size + 1) (A5 := w2.heap.size) (A6 := w3.heap.size) (a := a) (b := b) (c := c) (d := d) (p := p2) (q := q2) (u := u2) (w := v2) (by omega) (by omega) (by omega) ia ib ic id ip2 iq2 iu2 iv2 rfl rfl rfl rfl rfl ⟨X5.drew, X6.drew, ⟨0, 0, 0, 0, i64_nil, i64_nil, i64_nil, i64_nil, B0.drew⟩, 0, 0, 0, 0, i64_nil, i64_nil, i64_nil, i64_nil, B1.drew⟩ ?_
     rintro ⟨tm, df⟩ Wz hz hdf hoff hBz ⟨_, _, ⟨e0, e1, e2, e3, j0, j1, j2, j3, F0⟩, m0, m1, m2, m3, l0, l1, l2, l3, F1⟩
     simp only at hz hdf hoff
     subst hdf
     have htm := tmps_fold [69, 70] tm _ hz hoff
     simp only [List.foldl, List.setIfInBounds_toArray, List.set_cons_zero, List.set_cons_succ] at htm
     clear hz hoff
     generalize tm.getD 69 undef = sk0, tm.getD 70 undef = sk1 at htm
     subst htm
     replace HB := HB.trans hBz
     obtain ⟨o0, o1, o2, o3⟩ := F0.cs4
     obtain ⟨o4, o5, o6, o7⟩ := F1.cs4
     clear B0 B1 X5 X6 F0 F1 hBz
     go_wp2
     refine bodyPost_ret (v := .tuple #[.agg #[.int .i64 e0, .int .i64 e1, .int .i64 e2, .int .i64 e3], .agg #[.int .i64 m0, .int .i64 m1, .int .i64 m2, .int .i64 m3]]) (by simp [results, Tryz.results17, go_sem, o0, o1, o2, o3, o4, o5, o6, o7]) rfl ?_
     exact ⟨e0, e1, e2, e3, m0, m1, m2, m3, rfl, ⟨j0, j1, j2, j3⟩, ⟨l0, l1, l2, l3⟩, HB⟩
 · obtain ⟨q0, q1, q2, q3⟩ := X5.cs4
   go_wp2_with fail
   clear q0 q1 q2 q3
   refine (segOf_I _ _ _ _ (wrap_m _) (wrap_m _) (wrap_m _) (wrap_m _) _).mono ?_
   rintro e w5 ⟨p2, q2, u2, v2, k2, rfl, ip2, iq2, iu2, iv2, hB⟩
   replace HB := HB.trans (hB.mono HB.size)
   replace B0 := B0.step hB
   replace B1 := B1.step hB
   replace X5 := X5.step hB
   replace X6 := X6.step hB
   clear hB R
   have r0 := X6.c 0 rfl; have f0 := X6.f 0 rfl; have r1 := X6.c 1 rfl; have f1 := X6.f 1 rfl; have r2 := X6.c 2 rfl; have f2 := X6.f 2 rfl; have r3 := X6.c 3 rfl; have f3 := X6.f 3 rfl
   have x6l := X6.lt
   have Y6 : Blk ((((w5.setCell ⟨w3.heap.size, 0, none⟩ (.int .i64 p2)).setCell ⟨w3.heap.size, 1, none⟩ (.int .i64 q2)).setCell ⟨w3.heap.size, 2, none⟩ (.int .i64 u2)).setCell ⟨w3.heap.size, 3, none⟩ (.int .i64 v2)) w3.heap.size [.int .i64 p2, .int .i64 q2, .int .i64 u2, .int .i64 v2] := ((((X6.setI 0 (by simp) _).setI 1 (by simp) _).setI 2 (by simp) _).setI 3 (by simp) _)
   have Y5 : Blk ((((w5.setCell ⟨w3.heap.size, 0, none⟩ (.int .i64 p2)).setCell ⟨w3.heap.size, 1, none⟩ (.int .i64 q2)).setCell ⟨w3.heap.size, 2, none⟩ (.int .i64 u2)).setCell ⟨w3.heap.size, 3, none⟩ (.int .i64 v2)) w2.heap.size [.int .i64 a, .int .i64 b, .int .i64 c, .int .i64 d] := ((((X5.setO (p := ⟨w3.heap.size, 0, none⟩) (by show _ ≠ w3.heap.size; omega) _).setO (p := ⟨w3.heap.size, 1, none⟩) (by show _ ≠ w3.heap.size; omega) _).setO (p := ⟨w3.heap.size, 2, none⟩) (by show _ ≠ w3.heap.size; omega) _).setO (p := ⟨w3.heap.size, 3, none⟩) (by show _ ≠ w3.heap.size; omega) _)
   have C0 : Blk ((((w5.setCell ⟨w3.heap.size, 0, none⟩ (.int .i64 p2)).setCell ⟨w3.heap.size, 1, none⟩ (.int .i64 q2)).setCell ⟨w3.heap.size, 2, none⟩ (.int .i64 u2)).setCell ⟨w3.heap.size, 3, none⟩ (.int .i64 v2)) w.heap.size [.int .i64 0, .int .i64 0, .int .i64 0, .int .i64 0] := ((((B0.setO (p := ⟨w3.heap.size, 0, none⟩) (by show _ ≠ w3.heap.size; omega) _).setO (p := ⟨w3.heap.size, 1, none⟩) (by show _ ≠ w3.heap.size; omega) _).setO (p := ⟨w3.heap.size, 2, none⟩) (by show _ ≠ w3.heap.size; omega) _).setO (p := ⟨w3.heap.size, 3, none⟩) (by show _ ≠ w3.heap.size; omega) _)
   have C1 : Blk ((((w5.setCell ⟨w3.heap.size, 0, none⟩ (.int .i64 p2)).setCell ⟨w3.heap.size, 1, none⟩ (.int .i64 q2)).setCell ⟨w3.heap.size, 2, none⟩ (.int .i64 u2)).setCell ⟨w3.heap.size, 3, none⟩ (.int .i64 v2)) (w.heap.size + 1) [.int .i64 0, .int .i64 0, .int .i64 0, .int .i64 0] := ((((B1.setO (p := ⟨w3.heap.size, 0, none⟩) (by show _ ≠ w3.heap.size; omega) _).setO (p := ⟨w3.heap.size, 1, none⟩) (by show _ ≠ w3.heap.size; omega) _).setO (p := ⟨w3.heap.size, 2, none⟩) (by show _ ≠ w3.heap.size; omega) _).setO (p := ⟨w3.heap.size, 3, none⟩) (by show _ ≠ w3.heap.size; omega) _)
   have HC : Below w.heap.size w ((((w5.setCell ⟨w3.heap.size, 0, none⟩ (.int .i64 p2)).setCell ⟨w3.heap.size, 1, none⟩ (.int .i64 q2)).setCell ⟨w3.heap.size, 2, none⟩ (.int .i64 u2)).setCell ⟨w3.heap.size, 3, none⟩ (.int .i64 v2)) := ((((HB.setCell (p := ⟨w3.heap.size, 0, none⟩) (show w.heap.size ≤ w3.heap.size by omega) _).setCell (p := ⟨w3.heap.size, 1, none⟩) (show w.heap.size ≤ w3.heap.size by omega) _).setCell (p := ⟨w3.heap.size, 2, none⟩) (show w.heap.size ≤ w3.heap.size by omega) _).setCell (p := ⟨w3.heap.size, 3, none⟩) (show w.heap.size ≤ w3.heap.size by omega) _)
   clear X6 X5 B0 B1 HB
   go_upto_region 8 with fail
   clear r0 f0 r1 f1 r2 f2 r3 f3
   have X6 := Y6
   have X5 := Y5
   have B0 := C0
   have B1 := C1
   have HB := HC
   clear Y6 Y5 C0 C1 HC
   refine mbB (R0 := w.heap.size) (R1 := w.heap.size + 1) (A5 := w2.heap.size) (A6 := w3.heap.size) (a := a) (b := b) (c := c) (d := d) (p := p2) (q := q2) (u := u2) (w := v2) (by omega) (by omega) (by omega) ia ib ic id ip2 iq2 iu2 iv2 rfl rfl rfl rfl rfl ⟨X5.drew, X6.drew, ⟨0, 0, 0, 0, i64_nil, i64_nil, i64_nil, i64_nil, B0.drew⟩, 0, 0, 0, 0, i64_nil, i64_nil, i64_nil, i64_nil, B1.drew⟩ ?_
   rintro ⟨tm, df⟩ Wz hz hdf hoff hBz ⟨_, _, ⟨e0, e1, e2, e3, j0, j1, j2, j3, F0⟩, m0, m1, m2, m3, l0, l1, l2, l3, F1⟩
   simp only at hz hdf hoff
   subst hdf
   have htm := tmps_fold [69, 70] tm _ hz hoff
   simp only [List.foldl, List.setIfInBounds_toArray, List.set_cons_zero, List.set_cons_succ] at htm
   clear hz hoff
   generalize tm.getD 69 undef = sk0, tm.getD 70 undef = sk1 at htm
   subst htm
   replace HB := HB.trans hBz
   obtain ⟨o0, o1, o2, o3⟩ := F0.cs4
   obtain ⟨o4, o5, o6, o7⟩ := F1.cs4
   clear B0 B1 X5 X6 F0 F1 hBz
   go_wp2
   refine bodyPost_ret (v := .tuple #[.agg #[.int .i64 e0, .int .i64 e1, .int .i64 e2, .int .i64 e3], .agg #[.int .i64 m0, .int .i64 m1, .int .i64 m2, .int .i64 m3]]) (by simp [results, Tryz.results17, go_sem, o0, o1, o2, o3, o4, o5, o6, o7]) rfl ?_
   exact ⟨e0, e1, e2, e3, m0, m1, m2, m3, rfl, ⟨j0, j1, j2, j3⟩, ⟨l0, l1, l2, l3⟩, HB⟩
theorem t3_cells {x y z u v t a b c : Int} {w W : World} (T0 : ArgsB w W [[.int .u64 (ww3 x), .int .u64 (ww2 x), .int .u64 (ww1 x), .int .u64 (ww0 x), .int .u64 (ww3 y), .int .u64 (ww2 y), .int .u64 (ww1 y), .int .u64 (ww0 y), .int .u64 (ww3 z), .int .u64 (ww2 z), .int .u64 (ww1 z), .int .u64 (ww0 z)], [.int .u64 (ww3 u), .int .u64 (ww2 u), .int .u64 (ww1 u), .int .u64 (ww0 u), .int .u64 (ww3 v), .int .u64 (ww2 v), .int .u64 (ww1 v), .int .u64 (ww0 v), .int .u64 (ww3 t), .int .u64 (ww2 t), .int .u64 (ww1 t), .int .u64 (ww0 t)], [.int .u64 (ww3 a), .int .u64 (ww2 a), .int .u64 (ww1 a), .int .u64 (ww0 a), .int .u64 (ww3 b), .int .u64 (ww2 b), .int .u64 (ww1 b), .int .u64 (ww0 b), .int .u64 (ww3 c), .int .u64 (ww2 c), .int .u64 (ww1 c), .int .u64 (ww0 c)], [.int .u64 0, .int .u64 0, .int .u64 0, .int .u64 0, .int .u64 0, .int .u64 0, .int .u64 0, .int .u64 0]]) : (fun w' => w'.cell? ⟨w.heap.size, 0, none⟩ = some (.int .u64 (ww3 x)) ∧ w'.cell? ⟨w.heap.size, 1, none⟩ = some (.int .u64 (ww2 x)) ∧ w'.cell? ⟨w.heap.size, 2, none⟩ = some (.int .u64 (ww1 x)) ∧ w'.cell? ⟨w.heap.size, 3, none⟩ = some (.int .u64 (ww0 x)) ∧ w'.cell? ⟨w.heap.size, 4, none⟩ = some (.int .u64 (ww3 y)) ∧ w'.cell? ⟨w.heap.size, 5, none⟩ = some (.int .u64 (ww2 y)) ∧ w'.cell? ⟨w.heap.size, 6, none⟩ = some (.int .u64 (ww1 y)) ∧ w'.cell? ⟨w.heap.size, 7, none⟩ = some (.int .u64 (ww0 y)) ∧ w'.cell? ⟨w.heap.size, 8, none⟩ = some (.int .u64 (ww3 z)) ∧ w'.cell? ⟨w.heap.size, 9, none⟩ = some (.int .u64 (ww2 z)) ∧ w'.cell? ⟨w.heap.size, 10, none⟩ = some (.int .u64 (ww1 z)) ∧ w'.cell? ⟨w.heap.size, 11, none⟩ = some (.int .u64 (ww0 z)) ∧ w'.cell? ⟨w.heap.size + 1, 0, none⟩ = some (.int .u64 (ww3 u)) ∧ w'.cell? ⟨w.heap.size + 1, 1, none⟩ = some (.int .u64 (ww2 u)) ∧ w'.cell? ⟨w.heap.size + 1, 2, none⟩ = some (.int .u64 (ww1 u)) ∧ w'.cell? ⟨w.heap.size + 1, 3, none⟩ = some (.int .u64 (ww0 u)) ∧ w'.cell? ⟨w.heap.size + 1, 4, none⟩ = some (.int .u64 (ww3 v)) ∧ w'.cell? ⟨w.heap.size + 1, 5, none⟩ = some (.int .u64 (ww2 v)) ∧ w'.cell? ⟨w.heap.size + 1, 6, none⟩ = some (.int .u64 (ww1 v)) ∧ w'.cell? ⟨w.heap.size + 1, 7, none⟩ = some (.int .u64 (ww0 v)) ∧ w'.cell? ⟨w.heap.size + 1, 8, none⟩ = some (.int .u64 (ww3 t)) ∧ w'.cell? ⟨w.heap.size + 1, 9, none⟩ = some (.int .u64 (ww2 t)) ∧ w'.cell? ⟨w.heap.size + 1, 10, none⟩ = some (.int .u64 (ww1 t)) ∧ w'.cell? ⟨w.heap.size + 1, 11, none⟩ = some (.int .u64 (ww0 t)) ∧ w'.cell? ⟨w.heap.size + 2, 0, none⟩ = some (.int .u64 (ww3 a)) ∧ w'.cell? ⟨w.heap.size + 2, 1, none⟩ = some (.int .u64 (ww2 a)) ∧ w'.cell? ⟨w.heap.size + 2, 2, none⟩ = some (.int .u64 (ww1 a)) ∧ w'.cell? ⟨w.heap.size + 2, 3, none⟩ = some (.int .u64 (ww0 a)) ∧ w'.cell? ⟨w.heap.size + 2, 4, none⟩ = some (.int .u64 (ww3 b)) ∧ w'.cell? ⟨w.heap.size + 2, 5, none⟩ = some (.int .u64 (ww2 b)) ∧ w'.cell? ⟨w.heap.size + 2, 6, none⟩ = some (.int .u64 (ww1 b)) ∧ w'.cell? ⟨w.heap.size + 2, 7, none⟩ = some (.int .u64 (ww0 b)) ∧ w'.cell? ⟨w.heap.size + 2, 8, none⟩ = some (.int .u64 (ww3 c)) ∧ w'.cell? ⟨w.heap.size + 2, 9, none⟩ = some (.int .u64 (ww2 c)) ∧ w'.cell? ⟨w.heap.size + 2, 10, none⟩ = some (.int .u64 (ww1 c)) ∧ w'.cell? ⟨w.heap.size + 2, 11, none⟩ = some (.int .u64 (ww0 c))) W := ⟨(T0.b 0 rfl).c 0 rfl, (T0.b 0 rfl).c 1 rfl, (T0.b 0 rfl).c 2 rfl, (T0.b 0 rfl).c 3 rfl, (T0.b 0 rfl).c 4 rfl, (T0.b 0 rfl).c 5 rfl, (T0.b 0 rfl).c 6 rfl, (T0.b 0 rfl).c 7 rfl, (T0.b 0 rfl).c 8 rfl, (T0.b 0 rfl).c 9 rfl, (T0.b 0 rfl).c 10 rfl, (T0.b 0 rfl).c 11 rfl, (T0.b 1 rfl).c 0 rfl, (T0.b 1 rfl).c 1 rfl, (T0.b 1 rfl).c 2 rfl, (T0.b 1 rfl).c 3 rfl, (T0.b 1 rfl).c 4 rfl, (T0.b 1 rfl).c 5 rfl, (T0.b 1 rfl).c 6 rfl, (T0.b 1 rfl).c 7 rfl, (T0.b 1 rfl).c 8 rfl, (T0.b 1 rfl).c 9 rfl, (T0.b 1 rfl).c 10 rfl, (T0.b 1 rfl).c 11 rfl, (T0.b 2 rfl).c 0 rfl, (T0.b 2 rfl).c 1 rfl, (T0.b 2 rfl).c 2 rfl, (T0.b 2 rfl).c 3 rfl, (T0.b 2 rfl).c 4 rfl, (T0.b 2 rfl).c 5 rfl, (T0.b 2 rfl).c 6 rfl, (T0.b 2 rfl).c 7 rfl, (T0.b 2 rfl).c 8 rfl, (T0.b 2 rfl).c 9 rfl, (T0.b 2 rfl).c 10 rfl, (T0.b 2 rfl).c 11 rfl⟩
theorem t3_cells3 {x y z u v t a b c : Int} {w W : World} (T0 : ArgsB w W [[.int .u64 (ww3 x), .int .u64 (ww2 x), .int .u64 (ww1 x), .int .u64 (ww0 x), .int .u64 (ww3 y), .int .u64 (ww2 y), .int .u64 (ww1 y), .int .u64 (ww0 y), .int .u64 (ww3 z), .int .u64 (ww2 z), .int .u64 (ww1 z), .int .u64 (ww0 z)], [.int .u64 (ww3 u), .int .u64 (ww2 u), .int .u64 (ww1 u), .int .u64 (ww0 u), .int .u64 (ww3 v), .int .u64 (ww2 v), .int .u64 (ww1 v), .int .u64 (ww0 v), .int .u64 (ww3 t), .int .u64 (ww2 t), .int .u64 (ww1 t), .int .u64 (ww0 t)], [.int .u64 (ww3 a), .int .u64 (ww2 a), .int .u64 (ww1 a), .int .u64 (ww0 a), .int .u64 (ww3 b), .int .u64 (ww2 b), .int .u64 (ww1 b), .int .u64 (ww0 b), .int .u64 (ww3 c), .int .u64 (ww2 c), .int .u64 (ww1 c), .int .u64 (ww0 c)]]) : (fun w' => w'.cell? ⟨w.heap.size, 0, none⟩ = some (.int .u64 (ww3 x)) ∧ w'.cell? ⟨w.heap.size, 1, none⟩ = some (.int .u64 (ww2 x)) ∧ w'.cell? ⟨w.heap.size, 2, none⟩ = some (.int .u64 (ww1 x)) ∧ w'.cell? ⟨w.heap.size, 3, none⟩ = some (.int .u64 (ww0 x)) ∧ w'.cell? ⟨w.heap.size, 4, none⟩ = some (.int .u64 (ww3 y)) ∧ w'.cell? ⟨w.heap.size, 5, none⟩ = some (.int .u64 (ww2 y)) ∧ w'.cell? ⟨w.heap.size, 6, none⟩ = some (.int .u64 (ww1 y)) ∧ w'.cell? ⟨w.heap.size, 7, none⟩ = some (.int .u64 (ww0 y)) ∧ w'.cell? ⟨w.heap.size, 8, none⟩ = some (.int .u64 (ww3 z)) ∧ w'.cell? ⟨w.heap.size, 9, none⟩ = some (.int .u64 (ww2 z)) ∧ w'.cell? ⟨w.heap.size, 10, none⟩ = some (.int .u64 (ww1 z)) ∧ w'.cell? ⟨w.heap.size, 11, none⟩ = some (.int .u64 (ww0 z)) ∧ w'.cell? ⟨w.heap.size + 1, 0, none⟩ = some (.int .u64 (ww3 u)) ∧ w'.cell? ⟨w.heap.size + 1, 1, none⟩ = some (.int .u64 (ww2 u)) ∧ w'.cell? ⟨w.heap.size + 1, 2, none⟩ = some (.int .u64 (ww1 u)) ∧ w'.cell? ⟨w.heap.size + 1, 3, none⟩ = some (.int .u64 (ww0 u)) ∧ w'.cell? ⟨w.heap.size + 1, 4, none⟩ = some (.int .u64 (ww3 v)) ∧ w'.cell? ⟨w.heap.size + 1, 5, none⟩ = some (.int .u64 (ww2 v)) ∧ w'.cell? ⟨w.heap.size + 1, 6, none⟩ = some (.int .u64 (ww1 v)) ∧ w'.cell? ⟨w.heap.size + 1, 7, none⟩ = some (.int .u64 (ww0 v)) ∧ w'.cell? ⟨w.heap.size + 1, 8, none⟩ = some (.int .u64 (ww3 t)) ∧ w'.cell? ⟨w.heap.size + 1, 9, none⟩ = some (.int .u64 (ww2 t)) ∧ w'.cell? ⟨w.heap.size + 1, 10, none⟩ = some (.int .u64 (ww1 t)) ∧ w'.cell? ⟨w.heap.size + 1, 11, none⟩ = some (.int .u64 (ww0 t)) ∧ w'.cell? ⟨w.heap.size + 2, 0, none⟩ = some (.int .u64 (ww3 a)) ∧ w'.cell? ⟨w.heap.size + 2, 1, none⟩ = some (.int .u64 (ww2 a)) ∧ w'.cell? ⟨w.heap.size + 2, 2, none⟩ = some (.int .u64 (ww1 a)) ∧ w'.cell? ⟨w.heap.size + 2, 3, none⟩ = some (.int .u64 (ww0 a)) ∧ w'.cell? ⟨w.heap.size + 2, 4, none⟩ = some (.int .u64 (ww3 b)) ∧ w'.cell? ⟨w.heap.size + 2, 5, none⟩ = some (.int .u64 (ww2 b)) ∧ w'.cell? ⟨w.heap.size + 2, 6, none⟩ = some (.int .u64 (ww1 b)) ∧ w'.cell? ⟨w.heap.size + 2, 7, none⟩ = some (.int .u64 (ww0 b)) ∧ w'.cell? ⟨w.heap.size + 2, 8, none⟩ = some (.int .u64 (ww3 c)) ∧ w'.cell? ⟨w.heap.size + 2, 9, none⟩ = some (.int .u64 (ww2 c)) ∧ w'.cell? ⟨w.heap.size + 2, 10, none⟩ = some (.int .u64 (ww1 c)) ∧ w'.cell? ⟨w.heap.size + 2, 11, none⟩ = some (.int .u64 (ww0 c))) W := ⟨(T0.b 0 rfl).c 0 rfl, (T0.b 0 rfl).c 1 rfl, (T0.b 0 rfl).c 2 rfl, (T0.b 0 rfl).c 3 rfl, (T0.b 0 rfl).c 4 rfl, (T0.b 0 rfl).c 5 rfl, (T0.b 0 rfl).c 6 rfl, (T0.b 0 rfl).c 7 rfl, (T0.b 0 rfl).c 8 rfl, (T0.b 0 rfl).c 9 rfl, (T0.b 0 rfl).c 10 rfl, (T0.b 0 rfl).c 11 rfl, (T0.b 1 rfl).c 0 rfl, (T0.b 1 rfl).c 1 rfl, (T0.b 1 rfl).c 2 rfl, (T0.b 1 rfl).c 3 rfl, (T0.b 1 rfl).c 4 rfl, (T0.b 1 rfl).c 5 rfl, (T0.b 1 rfl).c 6 rfl, (T0.b 1 rfl).c 7 rfl, (T0.b 1 rfl).c 8 rfl, (T0.b 1 rfl).c 9 rfl, (T0.b 1 rfl).c 10 rfl, (T0.b 1 rfl).c 11 rfl, (T0.b 2 rfl).c 0 rfl, (T0.b 2 rfl).c 1 rfl, (T0.b 2 rfl).c 2 rfl, (T0.b 2 rfl).c 3 rfl, (T0.b 2 rfl).c 4 rfl, (T0.b 2 rfl).c 5 rfl, (T0.b 2 rfl).c 6 rfl, (T0.b 2 rfl).c 7 rfl, (T0.b 2 rfl).c 8 rfl, (T0.b 2 rfl).c 9 rfl, (T0.b 2 rfl).c 10 rfl, (T0.b 2 rfl).c 11 rfl⟩
theorem times_sm {r m : Int} (hr : small r = true) (hm : m.natAbs ≤ 2923003274661805836407369665432566039311865085952) (w : World) : Calls Tryz.prog 33 #[W4 r, W4 m] w (VP (LV (r * m)) w) := times_det r m (told_small hr) (told_of (by omega)) w
theorem triple_abs {r m : Int} (hr : small r = true) (hm : m.natAbs ≤ 2923003274661805836407369665432566039311865085952) : (r * m).natAbs ≤ 3533694129556768659166595001485837031654967793751237916243212402585239552 := by
 have := abs_mul (show r.natAbs ≤ 1208925819614629174706176 by have := sm_lt hr; omega) hm
 omega
def turnJ (x y z u v t a b c : Int) : Int := cmpI (a * (y * t - z * v) - b * (x * t - z * u) + c * (x * v - y * u)) 0
theorem cutK_new {w X : World} {vss : List (List Value)} {rs : List Value} {T : TypeId} {B : Nat} (h : ArgsB w X vss) (hl : B ≤ X.heap.size) : ∃ g, (Value.pointer (some ⟨X.heap.size, 0, none⟩)) = .pointer (some ⟨g, 0, none⟩) ∧ B ≤ g ∧ ArgsB w (X.alloc (.cells rs.toArray T)) vss ∧ Blk (X.alloc (.cells rs.toArray T)) g rs :=
 ⟨_, rfl, hl, h.alloc _, Blk.new X rs T rfl⟩
theorem cutK_set {w X : World} {vss : List (List Value)} {v0 v1 v2 v3 v4 v5 v6 v7 z0 z1 z2 z3 z4 z5 z6 z7 : Value} {g B : Nat} (h : ArgsB w X vss) (G : Blk X g [z0, z1, z2, z3, z4, z5, z6, z7]) (hl : B ≤ g) (hg : w.heap.size + vss.length ≤ g) : ∃ g', (Value.pointer (some ⟨g, 0, none⟩)) = .pointer (some ⟨g', 0, none⟩) ∧ B ≤ g' ∧ ArgsB w ((((((((X.setCell ⟨g, 0, none⟩ v0).setCell ⟨g, 1, none⟩ v1).setCell ⟨g, 2, none⟩ v2).setCell ⟨g, 3, none⟩ v3).setCell ⟨g, 4, none⟩ v4).setCell ⟨g, 5, none⟩ v5).setCell ⟨g, 6, none⟩ v6).setCell ⟨g, 7, none⟩ v7) vss ∧ Blk ((((((((X.setCell ⟨g, 0, none⟩ v0).setCell ⟨g, 1, none⟩ v1).setCell ⟨g, 2, none⟩ v2).setCell ⟨g, 3, none⟩ v3).setCell ⟨g, 4, none⟩ v4).setCell ⟨g, 5, none⟩ v5).setCell ⟨g, 6, none⟩ v6).setCell ⟨g, 7, none⟩ v7) g' [v0, v1, v2, v3, v4, v5, v6, v7] :=
 ⟨g, rfl, hl, h.set8g hg _ _ _ _ _ _ _ _, (((((((G.setI 0 (by simp) v0).setI 1 (by simp) v1).setI 2 (by simp) v2).setI 3 (by simp) v3).setI 4 (by simp) v4).setI 5 (by simp) v5).setI 6 (by simp) v6).setI 7 (by simp) v7⟩
theorem tl_cells8 {X Y Z : Int} {W : World} {gX gY gZ g : Nat} {v0 v1 v2 v3 v4 v5 v6 v7 : Value} (BX : Blk W gX [.int .u64 (lw0 X), .int .u64 (lw1 X), .int .u64 (lw2 X), .int .u64 (lw3 X), .int .u64 (lw4 X), .int .u64 (lw5 X), .int .u64 (lw6 X), .int .u64 (lw7 X)]) (BY : Blk W gY [.int .u64 (lw0 Y), .int .u64 (lw1 Y), .int .u64 (lw2 Y), .int .u64 (lw3 Y), .int .u64 (lw4 Y), .int .u64 (lw5 Y), .int .u64 (lw6 Y), .int .u64 (lw7 Y)]) (BZ : Blk W gZ [.int .u64 (lw0 Z), .int .u64 (lw1 Z), .int .u64 (lw2 Z), .int .u64 (lw3 Z), .int .u64 (lw4 Z), .int .u64 (lw5 Z), .int .u64 (lw6 Z), .int .u64 (lw7 Z)]) (hX : gX ≠ g) (hY : gY ≠ g) (hZ : gZ ≠ g) : (fun w' => w'.cell? ⟨gX, 0, none⟩ = some (.int .u64 (lw0 X)) ∧ w'.cell? ⟨gX, 1, none⟩ = some (.int .u64 (lw1 X)) ∧ w'.cell? ⟨gX, 2, none⟩ = some (.int .u64 (lw2 X)) ∧ w'.cell? ⟨gX, 3, none⟩ = some (.int .u64 (lw3 X)) ∧ w'.cell? ⟨gX, 4, none⟩ = some (.int .u64 (lw4 X)) ∧ w'.cell? ⟨gX, 5, none⟩ = some (.int .u64 (lw5 X)) ∧ w'.cell? ⟨gX, 6, none⟩ = some (.int .u64 (lw6 X)) ∧ w'.cell? ⟨gX, 7, none⟩ = some (.int .u64 (lw7 X)) ∧ w'.cell? ⟨gY, 0, none⟩ = some (.int .u64 (lw0 Y)) ∧ w'.cell? ⟨gY, 1, none⟩ = some (.int .u64 (lw1 Y)) ∧ w'.cell? ⟨gY, 2, none⟩ = some (.int .u64 (lw2 Y)) ∧ w'.cell? ⟨gY, 3, none⟩ = some (.int .u64 (lw3 Y)) ∧ w'.cell? ⟨gY, 4, none⟩ = some (.int .u64 (lw4 Y)) ∧ w'.cell? ⟨gY, 5, none⟩ = some (.int .u64 (lw5 Y)) ∧ w'.cell? ⟨gY, 6, none⟩ = some (.int .u64 (lw6 Y)) ∧ w'.cell? ⟨gY, 7, none⟩ = some (.int .u64 (lw7 Y)) ∧ w'.cell? ⟨gZ, 0, none⟩ = some (.int .u64 (lw0 Z)) ∧ w'.cell? ⟨gZ, 1, none⟩ = some (.int .u64 (lw1 Z)) ∧ w'.cell? ⟨gZ, 2, none⟩ = some (.int .u64 (lw2 Z)) ∧ w'.cell? ⟨gZ, 3, none⟩ = some (.int .u64 (lw3 Z)) ∧ w'.cell? ⟨gZ, 4, none⟩ = some (.int .u64 (lw4 Z)) ∧ w'.cell? ⟨gZ, 5, none⟩ = some (.int .u64 (lw5 Z)) ∧ w'.cell? ⟨gZ, 6, none⟩ = some (.int .u64 (lw6 Z)) ∧ w'.cell? ⟨gZ, 7, none⟩ = some (.int .u64 (lw7 Z))) ((((((((W.setCell ⟨g, 0, none⟩ v0).setCell ⟨g, 1, none⟩ v1).setCell ⟨g, 2, none⟩ v2).setCell ⟨g, 3, none⟩ v3).setCell ⟨g, 4, none⟩ v4).setCell ⟨g, 5, none⟩ v5).setCell ⟨g, 6, none⟩ v6).setCell ⟨g, 7, none⟩ v7) := ⟨(BX.set8 hX).c 0 rfl, (BX.set8 hX).c 1 rfl, (BX.set8 hX).c 2 rfl, (BX.set8 hX).c 3 rfl, (BX.set8 hX).c 4 rfl, (BX.set8 hX).c 5 rfl, (BX.set8 hX).c 6 rfl, (BX.set8 hX).c 7 rfl, (BY.set8 hY).c 0 rfl, (BY.set8 hY).c 1 rfl, (BY.set8 hY).c 2 rfl, (BY.set8 hY).c 3 rfl, (BY.set8 hY).c 4 rfl, (BY.set8 hY).c 5 rfl, (BY.set8 hY).c 6 rfl, (BY.set8 hY).c 7 rfl, (BZ.set8 hZ).c 0 rfl, (BZ.set8 hZ).c 1 rfl, (BZ.set8 hZ).c 2 rfl, (BZ.set8 hZ).c 3 rfl, (BZ.set8 hZ).c 4 rfl, (BZ.set8 hZ).c 5 rfl, (BZ.set8 hZ).c 6 rfl, (BZ.set8 hZ).c 7 rfl⟩
theorem tl_cells {X Y Z : Int} {W : World} {gX gY gZ : Nat} (BX : Blk W gX [.int .u64 (lw0 X), .int .u64 (lw1 X), .int .u64 (lw2 X), .int .u64 (lw3 X), .int .u64 (lw4 X), .int .u64 (lw5 X), .int .u64 (lw6 X), .int .u64 (lw7 X)]) (BY : Blk W gY [.int .u64 (lw0 Y), .int .u64 (lw1 Y), .int .u64 (lw2 Y), .int .u64 (lw3 Y), .int .u64 (lw4 Y), .int .u64 (lw5 Y), .int .u64 (lw6 Y), .int .u64 (lw7 Y)]) (BZ : Blk W gZ [.int .u64 (lw0 Z), .int .u64 (lw1 Z), .int .u64 (lw2 Z), .int .u64 (lw3 Z), .int .u64 (lw4 Z), .int .u64 (lw5 Z), .int .u64 (lw6 Z), .int .u64 (lw7 Z)]) : (fun w' => w'.cell? ⟨gX, 0, none⟩ = some (.int .u64 (lw0 X)) ∧ w'.cell? ⟨gX, 1, none⟩ = some (.int .u64 (lw1 X)) ∧ w'.cell? ⟨gX, 2, none⟩ = some (.int .u64 (lw2 X)) ∧ w'.cell? ⟨gX, 3, none⟩ = some (.int .u64 (lw3 X)) ∧ w'.cell? ⟨gX, 4, none⟩ = some (.int .u64 (lw4 X)) ∧ w'.cell? ⟨gX, 5, none⟩ = some (.int .u64 (lw5 X)) ∧ w'.cell? ⟨gX, 6, none⟩ = some (.int .u64 (lw6 X)) ∧ w'.cell? ⟨gX, 7, none⟩ = some (.int .u64 (lw7 X)) ∧ w'.cell? ⟨gY, 0, none⟩ = some (.int .u64 (lw0 Y)) ∧ w'.cell? ⟨gY, 1, none⟩ = some (.int .u64 (lw1 Y)) ∧ w'.cell? ⟨gY, 2, none⟩ = some (.int .u64 (lw2 Y)) ∧ w'.cell? ⟨gY, 3, none⟩ = some (.int .u64 (lw3 Y)) ∧ w'.cell? ⟨gY, 4, none⟩ = some (.int .u64 (lw4 Y)) ∧ w'.cell? ⟨gY, 5, none⟩ = some (.int .u64 (lw5 Y)) ∧ w'.cell? ⟨gY, 6, none⟩ = some (.int .u64 (lw6 Y)) ∧ w'.cell? ⟨gY, 7, none⟩ = some (.int .u64 (lw7 Y)) ∧ w'.cell? ⟨gZ, 0, none⟩ = some (.int .u64 (lw0 Z)) ∧ w'.cell? ⟨gZ, 1, none⟩ = some (.int .u64 (lw1 Z)) ∧ w'.cell? ⟨gZ, 2, none⟩ = some (.int .u64 (lw2 Z)) ∧ w'.cell? ⟨gZ, 3, none⟩ = some (.int .u64 (lw3 Z)) ∧ w'.cell? ⟨gZ, 4, none⟩ = some (.int .u64 (lw4 Z)) ∧ w'.cell? ⟨gZ, 5, none⟩ = some (.int .u64 (lw5 Z)) ∧ w'.cell? ⟨gZ, 6, none⟩ = some (.int .u64 (lw6 Z)) ∧ w'.cell? ⟨gZ, 7, none⟩ = some (.int .u64 (lw7 Z))) W := ⟨BX.c 0 rfl, BX.c 1 rfl, BX.c 2 rfl, BX.c 3 rfl, BX.c 4 rfl, BX.c 5 rfl, BX.c 6 rfl, BX.c 7 rfl, BY.c 0 rfl, BY.c 1 rfl, BY.c 2 rfl, BY.c 3 rfl, BY.c 4 rfl, BY.c 5 rfl, BY.c 6 rfl, BY.c 7 rfl, BZ.c 0 rfl, BZ.c 1 rfl, BZ.c 2 rfl, BZ.c 3 rfl, BZ.c 4 rfl, BZ.c 5 rfl, BZ.c 6 rfl, BZ.c 7 rfl⟩
def detJ (x y z u v t a b c : Int) : Int := a * (y * t - z * v) - b * (x * t - z * u) + c * (x * v - y * u)
theorem corners_det (x y z u v t a b c : Int) (sx : small x = true) (sy : small y = true) (sz : small z = true) (su : small u = true) (sv : small v = true) (st : small t = true) (sa : small a = true) (sb : small b = true) (sc : small c = true) (w : World) : Calls Tryz.prog 117 #[PV x y z, PV u v t, PV a b c] w (VP (LV (detJ x y z u v t a b c)) w) := by
 have T0 : ArgsB w ((((w.alloc (.cells #[.int .u64 (ww3 x), .int .u64 (ww2 x), .int .u64 (ww1 x), .int .u64 (ww0 x), .int .u64 (ww3 y), .int .u64 (ww2 y), .int .u64 (ww1 y), .int .u64 (ww0 y), .int .u64 (ww3 z), .int .u64 (ww2 z), .int .u64 (ww1 z), .int .u64 (ww0 z)] 40)).alloc (.cells #[.int .u64 (ww3 u), .int .u64 (ww2 u), .int .u64 (ww1 u), .int .u64 (ww0 u), .int .u64 (ww3 v), .int .u64 (ww2 v), .int .u64 (ww1 v), .int .u64 (ww0 v), .int .u64 (ww3 t), .int .u64 (ww2 t), .int .u64 (ww1 t), .int .u64 (ww0 t)] 40)).alloc (.cells #[.int .u64 (ww3 a), .int .u64 (ww2 a), .int .u64 (ww1 a), .int .u64 (ww0 a), .int .u64 (ww3 b), .int .u64 (ww2 b), .int .u64 (ww1 b), .int .u64 (ww0 b), .int .u64 (ww3 c), .int .u64 (ww2 c), .int .u64 (ww1 c), .int .u64 (ww0 c)] 40)).alloc (.cells #[.int .u64 0, .int .u64 0, .int .u64 0, .int .u64 0, .int .u64 0, .int .u64 0, .int .u64 0, .int .u64 0] 68)) [[.int .u64 (ww3 x), .int .u64 (ww2 x), .int .u64 (ww1 x), .int .u64 (ww0 x), .int .u64 (ww3 y), .int .u64 (ww2 y), .int .u64 (ww1 y), .int .u64 (ww0 y), .int .u64 (ww3 z), .int .u64 (ww2 z), .int .u64 (ww1 z), .int .u64 (ww0 z)], [.int .u64 (ww3 u), .int .u64 (ww2 u), .int .u64 (ww1 u), .int .u64 (ww0 u), .int .u64 (ww3 v), .int .u64 (ww2 v), .int .u64 (ww1 v), .int .u64 (ww0 v), .int .u64 (ww3 t), .int .u64 (ww2 t), .int .u64 (ww1 t), .int .u64 (ww0 t)], [.int .u64 (ww3 a), .int .u64 (ww2 a), .int .u64 (ww1 a), .int .u64 (ww0 a), .int .u64 (ww3 b), .int .u64 (ww2 b), .int .u64 (ww1 b), .int .u64 (ww0 b), .int .u64 (ww3 c), .int .u64 (ww2 c), .int .u64 (ww1 c), .int .u64 (ww0 c)], [.int .u64 0, .int .u64 0, .int .u64 0, .int .u64 0, .int .u64 0, .int .u64 0, .int .u64 0, .int .u64 0]] := ar4 _ _ _ _ _ _ _ _ w
 have m0 := minor_abs sy sz sv st
 have C0 := minor_sm y z v t sy sz sv st
 have D0 := times_sm sa m0
 have e0 := triple_abs sa m0
 have m1 := minor_abs sx sz su st
 have C1 := minor_sm x z u t sx sz su st
 have D1 := times_sm sb m1
 have e1 := triple_abs sb m1
 have m2 := minor_abs sx sy su sv
 have C2 := minor_sm x y u v sx sy su sv
 have D2 := times_sm sc m2
 have e2 := triple_abs sc m2
 have HO : Hid (detJ x y z u v t a b c = a * (y * t - z * v) - b * (x * t - z * u) + c * (x * v - y * u)) := rfl
 clear sx sy sz su sv st sa sb sc m0 m1 m2
 generalize hv0 : a * (y * t - z * v) = X at *
 generalize hv1 : b * (x * t - z * u) = Y at *
 generalize hv2 : c * (x * v - y * u) = Z at *
 generalize hw0 : y * t - z * v = M0 at *
 generalize hw1 : x * t - z * u = M1 at *
 generalize hw2 : x * v - y * u = M2 at *
 clear hv0 hv1 hv2 hw0 hw1 hw2
 have E1 := minus_det X Y (lr_abs (by omega)) (lr_abs (by omega)) (lr_abs (by omega))
 have E2 := plus_det (X - Y) Z (lr_abs (by omega)) (lr_abs (by omega)) (lr_abs (by omega))
 clear e0 e1 e2
 go_enter Tryz.func117, Tryz.ntmps117
 go_upto_region 1 with fail
 generalize ((((w.alloc (.cells #[.int .u64 (ww3 x), .int .u64 (ww2 x), .int .u64 (ww1 x), .int .u64 (ww0 x), .int .u64 (ww3 y), .int .u64 (ww2 y), .int .u64 (ww1 y), .int .u64 (ww0 y), .int .u64 (ww3 z), .int .u64 (ww2 z), .int .u64 (ww1 z), .int .u64 (ww0 z)] 40)).alloc (.cells #[.int .u64 (ww3 u), .int .u64 (ww2 u), .int .u64 (ww1 u), .int .u64 (ww0 u), .int .u64 (ww3 v), .int .u64 (ww2 v), .int .u64 (ww1 v), .int .u64 (ww0 v), .int .u64 (ww3 t), .int .u64 (ww2 t), .int .u64 (ww1 t), .int .u64 (ww0 t)] 40)).alloc (.cells #[.int .u64 (ww3 a), .int .u64 (ww2 a), .int .u64 (ww1 a), .int .u64 (ww0 a), .int .u64 (ww3 b), .int .u64 (ww2 b), .int .u64 (ww1 b), .int .u64 (ww0 b), .int .u64 (ww3 c), .int .u64 (ww2 c), .int .u64 (ww1 c), .int .u64 (ww0 c)] 40)).alloc (.cells #[.int .u64 0, .int .u64 0, .int .u64 0, .int .u64 0, .int .u64 0, .int .u64 0, .int .u64 0, .int .u64 0] 68)) = W at *
 have h0 := (T0.b 3 rfl).lt
 go_cut [7] (fun p wx => (∃ g, p = .pointer (some ⟨g, 0, none⟩) ∧ w.heap.size + 4 ≤ g ∧ ArgsB w wx [[.int .u64 (ww3 x), .int .u64 (ww2 x), .int .u64 (ww1 x), .int .u64 (ww0 x), .int .u64 (ww3 y), .int .u64 (ww2 y), .int .u64 (ww1 y), .int .u64 (ww0 y), .int .u64 (ww3 z), .int .u64 (ww2 z), .int .u64 (ww1 z), .int .u64 (ww0 z)], [.int .u64 (ww3 u), .int .u64 (ww2 u), .int .u64 (ww1 u), .int .u64 (ww0 u), .int .u64 (ww3 v), .int .u64 (ww2 v), .int .u64 (ww1 v), .int .u64 (ww0 v), .int .u64 (ww3 t), .int .u64 (ww2 t), .int .u64 (ww1 t), .int .u64 (ww0 t)], [.int .u64 (ww3 a), .int .u64 (ww2 a), .int .u64 (ww1 a), .int .u64 (ww0 a), .int .u64 (ww3 b), .int .u64 (ww2 b), .int .u64 (ww1 b), .int .u64 (ww0 b), .int .u64 (ww3 c), .int .u64 (ww2 c), .int .u64 (ww1 c), .int .u64 (ww0 c)], [.int .u64 0, .int .u64 0, .int .u64 0, .int .u64 0, .int .u64 0, .int .u64 0, .int .u64 0, .int .u64 0]] ∧ Blk wx g [.int .u64 (lw0 X), .int .u64 (lw1 X), .int .u64 (lw2 X), .int .u64 (lw3 X), .int .u64 (lw4 X), .int .u64 (lw5 X), .int .u64 (lw6 X), .int .u64 (lw7 X)]))
 case first =>
   go_region_held3 (fun w' => w'.cell? ⟨w.heap.size, 0, none⟩ = some (.int .u64 (ww3 x)) ∧ w'.cell? ⟨w.heap.size, 1, none⟩ = some (.int .u64 (ww2 x)) ∧ w'.cell? ⟨w.heap.size, 2, none⟩ = some (.int .u64 (ww1 x)) ∧ w'.cell? ⟨w.heap.size, 3, none⟩ = some (.int .u64 (ww0 x)) ∧ w'.cell? ⟨w.heap.size, 4, none⟩ = some (.int .u64 (ww3 y)) ∧ w'.cell? ⟨w.heap.size, 5, none⟩ = some (.int .u64 (ww2 y)) ∧ w'.cell? ⟨w.heap.size, 6, none⟩ = some (.int .u64 (ww1 y)) ∧ w'.cell? ⟨w.heap.size, 7, none⟩ = some (.int .u64 (ww0 y)) ∧ w'.cell? ⟨w.heap.size, 8, none⟩ = some (.int .u64 (ww3 z)) ∧ w'.cell? ⟨w.heap.size, 9, none⟩ = some (.int .u64 (ww2 z)) ∧ w'.cell? ⟨w.heap.size, 10, none⟩ = some (.int .u64 (ww1 z)) ∧ w'.cell? ⟨w.heap.size, 11, none⟩ = some (.int .u64 (ww0 z)) ∧ w'.cell? ⟨w.heap.size + 1, 0, none⟩ = some (.int .u64 (ww3 u)) ∧ w'.cell? ⟨w.heap.size + 1, 1, none⟩ = some (.int .u64 (ww2 u)) ∧ w'.cell? ⟨w.heap.size + 1, 2, none⟩ = some (.int .u64 (ww1 u)) ∧ w'.cell? ⟨w.heap.size + 1, 3, none⟩ = some (.int .u64 (ww0 u)) ∧ w'.cell? ⟨w.heap.size + 1, 4, none⟩ = some (.int .u64 (ww3 v)) ∧ w'.cell? ⟨w.heap.size + 1, 5, none⟩ = some (.int .u64 (ww2 v)) ∧ w'.cell? ⟨w.heap.size + 1, 6, none⟩ = some (.int .u64 (ww1 v)) ∧ w'.cell? ⟨w.heap.size + 1, 7, none⟩ = some (.int .u64 (ww0 v)) ∧ w'.cell? ⟨w.heap.size + 1, 8, none⟩ = some (.int .u64 (ww3 t)) ∧ w'.cell? ⟨w.heap.size + 1, 9, none⟩ = some (.int .u64 (ww2 t)) ∧ w'.cell? ⟨w.heap.size + 1, 10, none⟩ = some (.int .u64 (ww1 t)) ∧ w'.cell? ⟨w.heap.size + 1, 11, none⟩ = some (.int .u64 (ww0 t)) ∧ w'.cell? ⟨w.heap.size + 2, 0, none⟩ = some (.int .u64 (ww3 a)) ∧ w'.cell? ⟨w.heap.size + 2, 1, none⟩ = some (.int .u64 (ww2 a)) ∧ w'.cell? ⟨w.heap.size + 2, 2, none⟩ = some (.int .u64 (ww1 a)) ∧ w'.cell? ⟨w.heap.size + 2, 3, none⟩ = some (.int .u64 (ww0 a)) ∧ w'.cell? ⟨w.heap.size + 2, 4, none⟩ = some (.int .u64 (ww3 b)) ∧ w'.cell? ⟨w.heap.size + 2, 5, none⟩ = some (.int .u64 (ww2 b)) ∧ w'.cell? ⟨w.heap.size + 2, 6, none⟩ = some (.int .u64 (ww1 b)) ∧ w'.cell? ⟨w.heap.size + 2, 7, none⟩ = some (.int .u64 (ww0 b)) ∧ w'.cell? ⟨w.heap.size + 2, 8, none⟩ = some (.int .u64 (ww3 c)) ∧ w'.cell? ⟨w.heap.size + 2, 9, none⟩ = some (.int .u64 (ww2 c)) ∧ w'.cell? ⟨w.heap.size + 2, 10, none⟩ = some (.int .u64 (ww1 c)) ∧ w'.cell? ⟨w.heap.size + 2, 11, none⟩ = some (.int .u64 (ww0 c))) ((refine t3_cells ?_ <;> repeat (first | (with_reducible exact T0) | (with_reducible refine ArgsB.drew ?_) | (with_reducible refine ArgsB.alloc ?_ _) | (with_reducible refine ArgsB.set8g ?_ (by simp; omega) _ _ _ _ _ _ _ _))))
     (first
       | (go_at_call 42; refine (C0 _).mono ?_; rintro e v01 ⟨rfl, hB⟩; (first | (have T1 : ArgsB w v01 _ := (by with_reducible exact T0.step hB); have tltv01 := (T0.b 3 rfl).lt; (try (replace G0 := G0.step hB; obtain ⟨j0c, j0f, j1c, j1f, j2c, j2f, j3c, j3f, j4c, j4f, j5c, j5f, j6c, j6f, j7c, j7f⟩ := G0.cf8; have jlt := G0.lt))) | (have T1 : ArgsB w v01 _ := (by with_reducible exact T0.drew.step hB); have tltv01 := (T0.b 3 rfl).lt; (try (replace G0 := G0.drew.step hB; obtain ⟨j0c, j0f, j1c, j1f, j2c, j2f, j3c, j3f, j4c, j4f, j5c, j5f, j6c, j6f, j7c, j7f⟩ := G0.cf8; have jlt := G0.lt))) | (have T1 : ArgsB w v01 _ := (by with_reducible exact (T0.alloc _).step hB); have tltv01 := (T0.b 3 rfl).lt; (have G0 := (Blk.new _ [.int .u64 0, .int .u64 0, .int .u64 0, .int .u64 0, .int .u64 0, .int .u64 0, .int .u64 0, .int .u64 0] _ rfl).step hB; obtain ⟨j0c, j0f, j1c, j1f, j2c, j2f, j3c, j3f, j4c, j4f, j5c, j5f, j6c, j6f, j7c, j7f⟩ := G0.cf8; have jlt := G0.lt)) | (have T1 : ArgsB w v01 _ := (by with_reducible exact (T0.alloc _).drew.step hB); have tltv01 := (T0.b 3 rfl).lt; (have G0 := (Blk.new _ [.int .u64 0, .int .u64 0, .int .u64 0, .int .u64 0, .int .u64 0, .int .u64 0, .int .u64 0, .int .u64 0] _ rfl).drew.step hB; obtain ⟨j0c, j0f, j1c, j1f, j2c, j2f, j3c, j3f, j4c, j4f, j5c, j5f, j6c, j6f, j7c, j7f⟩ := G0.cf8; have jlt := G0.lt))); clear T0; have T0 := T1; clear T1; clear hB)
       | (go_at_call 33; refine (D0 _).mono ?_; rintro e v02 ⟨rfl, hB⟩; (first | (have T1 : ArgsB w v02 _ := (by with_reducible exact T0.step hB); have tltv02 := (T0.b 3 rfl).lt; (try (replace G0 := G0.step hB; obtain ⟨j0c, j0f, j1c, j1f, j2c, j2f, j3c, j3f, j4c, j4f, j5c, j5f, j6c, j6f, j7c, j7f⟩ := G0.cf8; have jlt := G0.lt))) | (have T1 : ArgsB w v02 _ := (by with_reducible exact T0.drew.step hB); have tltv02 := (T0.b 3 rfl).lt; (try (replace G0 := G0.drew.step hB; obtain ⟨j0c, j0f, j1c, j1f, j2c, j2f, j3c, j3f, j4c, j4f, j5c, j5f, j6c, j6f, j7c, j7f⟩ := G0.cf8; have jlt := G0.lt))) | (have T1 : ArgsB w v02 _ := (by with_reducible exact (T0.alloc _).step hB); have tltv02 := (T0.b 3 rfl).lt; (have G0 := (Blk.new _ [.int .u64 0, .int .u64 0, .int .u64 0, .int .u64 0, .int .u64 0, .int .u64 0, .int .u64 0, .int .u64 0] _ rfl).step hB; obtain ⟨j0c, j0f, j1c, j1f, j2c, j2f, j3c, j3f, j4c, j4f, j5c, j5f, j6c, j6f, j7c, j7f⟩ := G0.cf8; have jlt := G0.lt)) | (have T1 : ArgsB w v02 _ := (by with_reducible exact (T0.alloc _).drew.step hB); have tltv02 := (T0.b 3 rfl).lt; (have G0 := (Blk.new _ [.int .u64 0, .int .u64 0, .int .u64 0, .int .u64 0, .int .u64 0, .int .u64 0, .int .u64 0, .int .u64 0] _ rfl).drew.step hB; obtain ⟨j0c, j0f, j1c, j1f, j2c, j2f, j3c, j3f, j4c, j4f, j5c, j5f, j6c, j6f, j7c, j7f⟩ := G0.cf8; have jlt := G0.lt))); clear T0; have T0 := T1; clear T1; clear hB))
   all_goals go_wp2_with fail
   all_goals go_meet
   all_goals have hl := (T0.b 3 rfl).lt
   all_goals first | (with_reducible exact cutK_new T0 (by omega)) | (with_reducible exact cutK_set T0 G0 (by omega) (by simp; omega))
 case rest =>
   clear T0 h0 C0 D0 
   obtain ⟨gX, hp, hgX, T0, BX⟩ := hcut
   subst hp
   have h0 := (T0.b 3 rfl).lt
   go_upto_region 2 with fail
   go_cut [8] (fun p wx => (∃ g, p = .pointer (some ⟨g, 0, none⟩) ∧ gX + 1 ≤ g ∧ ArgsB w wx [[.int .u64 (ww3 x), .int .u64 (ww2 x), .int .u64 (ww1 x), .int .u64 (ww0 x), .int .u64 (ww3 y), .int .u64 (ww2 y), .int .u64 (ww1 y), .int .u64 (ww0 y), .int .u64 (ww3 z), .int .u64 (ww2 z), .int .u64 (ww1 z), .int .u64 (ww0 z)], [.int .u64 (ww3 u), .int .u64 (ww2 u), .int .u64 (ww1 u), .int .u64 (ww0 u), .int .u64 (ww3 v), .int .u64 (ww2 v), .int .u64 (ww1 v), .int .u64 (ww0 v), .int .u64 (ww3 t), .int .u64 (ww2 t), .int .u64 (ww1 t), .int .u64 (ww0 t)], [.int .u64 (ww3 a), .int .u64 (ww2 a), .int .u64 (ww1 a), .int .u64 (ww0 a), .int .u64 (ww3 b), .int .u64 (ww2 b), .int .u64 (ww1 b), .int .u64 (ww0 b), .int .u64 (ww3 c), .int .u64 (ww2 c), .int .u64 (ww1 c), .int .u64 (ww0 c)], [.int .u64 0, .int .u64 0, .int .u64 0, .int .u64 0, .int .u64 0, .int .u64 0, .int .u64 0, .int .u64 0]] ∧ Blk wx g [.int .u64 (lw0 Y), .int .u64 (lw1 Y), .int .u64 (lw2 Y), .int .u64 (lw3 Y), .int .u64 (lw4 Y), .int .u64 (lw5 Y), .int .u64 (lw6 Y), .int .u64 (lw7 Y)]) ∧ Blk wx gX [.int .u64 (lw0 X), .int .u64 (lw1 X), .int .u64 (lw2 X), .int .u64 (lw3 X), .int .u64 (lw4 X), .int .u64 (lw5 X), .int .u64 (lw6 X), .int .u64 (lw7 X)])
   case first =>
     go_region_held3 (fun w' => w'.cell? ⟨w.heap.size, 0, none⟩ = some (.int .u64 (ww3 x)) ∧ w'.cell? ⟨w.heap.size, 1, none⟩ = some (.int .u64 (ww2 x)) ∧ w'.cell? ⟨w.heap.size, 2, none⟩ = some (.int .u64 (ww1 x)) ∧ w'.cell? ⟨w.heap.size, 3, none⟩ = some (.int .u64 (ww0 x)) ∧ w'.cell? ⟨w.heap.size, 4, none⟩ = some (.int .u64 (ww3 y)) ∧ w'.cell? ⟨w.heap.size, 5, none⟩ = some (.int .u64 (ww2 y)) ∧ w'.cell? ⟨w.heap.size, 6, none⟩ = some (.int .u64 (ww1 y)) ∧ w'.cell? ⟨w.heap.size, 7, none⟩ = some (.int .u64 (ww0 y)) ∧ w'.cell? ⟨w.heap.size, 8, none⟩ = some (.int .u64 (ww3 z)) ∧ w'.cell? ⟨w.heap.size, 9, none⟩ = some (.int .u64 (ww2 z)) ∧ w'.cell? ⟨w.heap.size, 10, none⟩ = some (.int .u64 (ww1 z)) ∧ w'.cell? ⟨w.heap.size, 11, none⟩ = some (.int .u64 (ww0 z)) ∧ w'.cell? ⟨w.heap.size + 1, 0, none⟩ = some (.int .u64 (ww3 u)) ∧ w'.cell? ⟨w.heap.size + 1, 1, none⟩ = some (.int .u64 (ww2 u)) ∧ w'.cell? ⟨w.heap.size + 1, 2, none⟩ = some (.int .u64 (ww1 u)) ∧ w'.cell? ⟨w.heap.size + 1, 3, none⟩ = some (.int .u64 (ww0 u)) ∧ w'.cell? ⟨w.heap.size + 1, 4, none⟩ = some (.int .u64 (ww3 v)) ∧ w'.cell? ⟨w.heap.size + 1, 5, none⟩ = some (.int .u64 (ww2 v)) ∧ w'.cell? ⟨w.heap.size + 1, 6, none⟩ = some (.int .u64 (ww1 v)) ∧ w'.cell? ⟨w.heap.size + 1, 7, none⟩ = some (.int .u64 (ww0 v)) ∧ w'.cell? ⟨w.heap.size + 1, 8, none⟩ = some (.int .u64 (ww3 t)) ∧ w'.cell? ⟨w.heap.size + 1, 9, none⟩ = some (.int .u64 (ww2 t)) ∧ w'.cell? ⟨w.heap.size + 1, 10, none⟩ = some (.int .u64 (ww1 t)) ∧ w'.cell? ⟨w.heap.size + 1, 11, none⟩ = some (.int .u64 (ww0 t)) ∧ w'.cell? ⟨w.heap.size + 2, 0, none⟩ = some (.int .u64 (ww3 a)) ∧ w'.cell? ⟨w.heap.size + 2, 1, none⟩ = some (.int .u64 (ww2 a)) ∧ w'.cell? ⟨w.heap.size + 2, 2, none⟩ = some (.int .u64 (ww1 a)) ∧ w'.cell? ⟨w.heap.size + 2, 3, none⟩ = some (.int .u64 (ww0 a)) ∧ w'.cell? ⟨w.heap.size + 2, 4, none⟩ = some (.int .u64 (ww3 b)) ∧ w'.cell? ⟨w.heap.size + 2, 5, none⟩ = some (.int .u64 (ww2 b)) ∧ w'.cell? ⟨w.heap.size + 2, 6, none⟩ = some (.int .u64 (ww1 b)) ∧ w'.cell? ⟨w.heap.size + 2, 7, none⟩ = some (.int .u64 (ww0 b)) ∧ w'.cell? ⟨w.heap.size + 2, 8, none⟩ = some (.int .u64 (ww3 c)) ∧ w'.cell? ⟨w.heap.size + 2, 9, none⟩ = some (.int .u64 (ww2 c)) ∧ w'.cell? ⟨w.heap.size + 2, 10, none⟩ = some (.int .u64 (ww1 c)) ∧ w'.cell? ⟨w.heap.size + 2, 11, none⟩ = some (.int .u64 (ww0 c))) ((refine t3_cells ?_ <;> repeat (first | (with_reducible exact T0) | (with_reducible refine ArgsB.drew ?_) | (with_reducible refine ArgsB.alloc ?_ _) | (with_reducible refine ArgsB.set8g ?_ (by simp; omega) _ _ _ _ _ _ _ _))))
       (first
         | (go_at_call 42; refine (C1 _).mono ?_; rintro e v11 ⟨rfl, hB⟩; (first | (have T1 : ArgsB w v11 _ := (by with_reducible exact T0.step hB); have tltv11 := (T0.b 3 rfl).lt; have lBXv11 := BX.lt; replace BX := BX.step hB; (try (replace G0 := G0.step hB; obtain ⟨j0c, j0f, j1c, j1f, j2c, j2f, j3c, j3f, j4c, j4f, j5c, j5f, j6c, j6f, j7c, j7f⟩ := G0.cf8; have jlt := G0.lt))) | (have T1 : ArgsB w v11 _ := (by with_reducible exact T0.drew.step hB); have tltv11 := (T0.b 3 rfl).lt; have lBXv11 := BX.lt; replace BX := BX.drew.step hB; (try (replace G0 := G0.drew.step hB; obtain ⟨j0c, j0f, j1c, j1f, j2c, j2f, j3c, j3f, j4c, j4f, j5c, j5f, j6c, j6f, j7c, j7f⟩ := G0.cf8; have jlt := G0.lt))) | (have T1 : ArgsB w v11 _ := (by with_reducible exact (T0.alloc _).step hB); have tltv11 := (T0.b 3 rfl).lt; have lBXv11 := BX.lt; replace BX := (BX.alloc _).step hB; (have G0 := (Blk.new _ [.int .u64 0, .int .u64 0, .int .u64 0, .int .u64 0, .int .u64 0, .int .u64 0, .int .u64 0, .int .u64 0] _ rfl).step hB; obtain ⟨j0c, j0f, j1c, j1f, j2c, j2f, j3c, j3f, j4c, j4f, j5c, j5f, j6c, j6f, j7c, j7f⟩ := G0.cf8; have jlt := G0.lt)) | (have T1 : ArgsB w v11 _ := (by with_reducible exact (T0.alloc _).drew.step hB); have tltv11 := (T0.b 3 rfl).lt; have lBXv11 := BX.lt; replace BX := (BX.alloc _).drew.step hB; (have G0 := (Blk.new _ [.int .u64 0, .int .u64 0, .int .u64 0, .int .u64 0, .int .u64 0, .int .u64 0, .int .u64 0, .int .u64 0] _ rfl).drew.step hB; obtain ⟨j0c, j0f, j1c, j1f, j2c, j2f, j3c, j3f, j4c, j4f, j5c, j5f, j6c, j6f, j7c, j7f⟩ := G0.cf8; have jlt := G0.lt))); clear T0; have T0 := T1; clear T1; clear hB)
         | (go_at_call 33; refine (D1 _).mono ?_; rintro e v12 ⟨rfl, hB⟩; (first | (have T1 : ArgsB w v12 _ := (by with_reducible exact T0.step hB); have tltv12 := (T0.b 3 rfl).lt; have lBXv12 := BX.lt; replace BX := BX.step hB; (try (replace G0 := G0.step hB; obtain ⟨j0c, j0f, j1c, j1f, j2c, j2f, j3c, j3f, j4c, j4f, j5c, j5f, j6c, j6f, j7c, j7f⟩ := G0.cf8; have jlt := G0.lt))) | (have T1 : ArgsB w v12 _ := (by with_reducible exact T0.drew.step hB); have tltv12 := (T0.b 3 rfl).lt; have lBXv12 := BX.lt; replace BX := BX.drew.step hB; (try (replace G0 := G0.drew.step hB; obtain ⟨j0c, j0f, j1c, j1f, j2c, j2f, j3c, j3f, j4c, j4f, j5c, j5f, j6c, j6f, j7c, j7f⟩ := G0.cf8; have jlt := G0.lt))) | (have T1 : ArgsB w v12 _ := (by with_reducible exact (T0.alloc _).step hB); have tltv12 := (T0.b 3 rfl).lt; have lBXv12 := BX.lt; replace BX := (BX.alloc _).step hB; (have G0 := (Blk.new _ [.int .u64 0, .int .u64 0, .int .u64 0, .int .u64 0, .int .u64 0, .int .u64 0, .int .u64 0, .int .u64 0] _ rfl).step hB; obtain ⟨j0c, j0f, j1c, j1f, j2c, j2f, j3c, j3f, j4c, j4f, j5c, j5f, j6c, j6f, j7c, j7f⟩ := G0.cf8; have jlt := G0.lt)) | (have T1 : ArgsB w v12 _ := (by with_reducible exact (T0.alloc _).drew.step hB); have tltv12 := (T0.b 3 rfl).lt; have lBXv12 := BX.lt; replace BX := (BX.alloc _).drew.step hB; (have G0 := (Blk.new _ [.int .u64 0, .int .u64 0, .int .u64 0, .int .u64 0, .int .u64 0, .int .u64 0, .int .u64 0, .int .u64 0] _ rfl).drew.step hB; obtain ⟨j0c, j0f, j1c, j1f, j2c, j2f, j3c, j3f, j4c, j4f, j5c, j5f, j6c, j6f, j7c, j7f⟩ := G0.cf8; have jlt := G0.lt))); clear T0; have T0 := T1; clear T1; clear hB))
     all_goals go_wp2_with fail
     all_goals go_meet
     all_goals have hl := (T0.b 3 rfl).lt
     all_goals have hlX := BX.lt
     all_goals first | (with_reducible exact ⟨cutK_new T0 (by omega), BX.alloc _⟩) | (with_reducible exact ⟨cutK_set T0 G0 (by omega) (by simp; omega), BX.set8 (by omega)⟩)
   case rest =>
     clear T0 h0 C1 D1 BX
     obtain ⟨⟨gY, hp, hgY, T0, BY⟩, BX⟩ := hcut
     subst hp
     have h0 := (T0.b 3 rfl).lt
     go_upto_region 3 with fail
     go_cut [9] (fun p wx => (∃ g, p = .pointer (some ⟨g, 0, none⟩) ∧ gY + 1 ≤ g ∧ ArgsB w wx [[.int .u64 (ww3 x), .int .u64 (ww2 x), .int .u64 (ww1 x), .int .u64 (ww0 x), .int .u64 (ww3 y), .int .u64 (ww2 y), .int .u64 (ww1 y), .int .u64 (ww0 y), .int .u64 (ww3 z), .int .u64 (ww2 z), .int .u64 (ww1 z), .int .u64 (ww0 z)], [.int .u64 (ww3 u), .int .u64 (ww2 u), .int .u64 (ww1 u), .int .u64 (ww0 u), .int .u64 (ww3 v), .int .u64 (ww2 v), .int .u64 (ww1 v), .int .u64 (ww0 v), .int .u64 (ww3 t), .int .u64 (ww2 t), .int .u64 (ww1 t), .int .u64 (ww0 t)], [.int .u64 (ww3 a), .int .u64 (ww2 a), .int .u64 (ww1 a), .int .u64 (ww0 a), .int .u64 (ww3 b), .int .u64 (ww2 b), .int .u64 (ww1 b), .int .u64 (ww0 b), .int .u64 (ww3 c), .int .u64 (ww2 c), .int .u64 (ww1 c), .int .u64 (ww0 c)], [.int .u64 0, .int .u64 0, .int .u64 0, .int .u64 0, .int .u64 0, .int .u64 0, .int .u64 0, .int .u64 0]] ∧ Blk wx g [.int .u64 (lw0 Z), .int .u64 (lw1 Z), .int .u64 (lw2 Z), .int .u64 (lw3 Z), .int .u64 (lw4 Z), .int .u64 (lw5 Z), .int .u64 (lw6 Z), .int .u64 (lw7 Z)]) ∧ Blk wx gX [.int .u64 (lw0 X), .int .u64 (lw1 X), .int .u64 (lw2 X), .int .u64 (lw3 X), .int .u64 (lw4 X), .int .u64 (lw5 X), .int .u64 (lw6 X), .int .u64 (lw7 X)] ∧ Blk wx gY [.int .u64 (lw0 Y), .int .u64 (lw1 Y), .int .u64 (lw2 Y), .int .u64 (lw3 Y), .int .u64 (lw4 Y), .int .u64 (lw5 Y), .int .u64 (lw6 Y), .int .u64 (lw7 Y)])
     case first =>
       go_region_held3 (fun w' => w'.cell? ⟨w.heap.size, 0, none⟩ = some (.int .u64 (ww3 x)) ∧ w'.cell? ⟨w.heap.size, 1, none⟩ = some (.int .u64 (ww2 x)) ∧ w'.cell? ⟨w.heap.size, 2, none⟩ = some (.int .u64 (ww1 x)) ∧ w'.cell? ⟨w.heap.size, 3, none⟩ = some (.int .u64 (ww0 x)) ∧ w'.cell? ⟨w.heap.size, 4, none⟩ = some (.int .u64 (ww3 y)) ∧ w'.cell? ⟨w.heap.size, 5, none⟩ = some (.int .u64 (ww2 y)) ∧ w'.cell? ⟨w.heap.size, 6, none⟩ = some (.int .u64 (ww1 y)) ∧ w'.cell? ⟨w.heap.size, 7, none⟩ = some (.int .u64 (ww0 y)) ∧ w'.cell? ⟨w.heap.size, 8, none⟩ = some (.int .u64 (ww3 z)) ∧ w'.cell? ⟨w.heap.size, 9, none⟩ = some (.int .u64 (ww2 z)) ∧ w'.cell? ⟨w.heap.size, 10, none⟩ = some (.int .u64 (ww1 z)) ∧ w'.cell? ⟨w.heap.size, 11, none⟩ = some (.int .u64 (ww0 z)) ∧ w'.cell? ⟨w.heap.size + 1, 0, none⟩ = some (.int .u64 (ww3 u)) ∧ w'.cell? ⟨w.heap.size + 1, 1, none⟩ = some (.int .u64 (ww2 u)) ∧ w'.cell? ⟨w.heap.size + 1, 2, none⟩ = some (.int .u64 (ww1 u)) ∧ w'.cell? ⟨w.heap.size + 1, 3, none⟩ = some (.int .u64 (ww0 u)) ∧ w'.cell? ⟨w.heap.size + 1, 4, none⟩ = some (.int .u64 (ww3 v)) ∧ w'.cell? ⟨w.heap.size + 1, 5, none⟩ = some (.int .u64 (ww2 v)) ∧ w'.cell? ⟨w.heap.size + 1, 6, none⟩ = some (.int .u64 (ww1 v)) ∧ w'.cell? ⟨w.heap.size + 1, 7, none⟩ = some (.int .u64 (ww0 v)) ∧ w'.cell? ⟨w.heap.size + 1, 8, none⟩ = some (.int .u64 (ww3 t)) ∧ w'.cell? ⟨w.heap.size + 1, 9, none⟩ = some (.int .u64 (ww2 t)) ∧ w'.cell? ⟨w.heap.size + 1, 10, none⟩ = some (.int .u64 (ww1 t)) ∧ w'.cell? ⟨w.heap.size + 1, 11, none⟩ = some (.int .u64 (ww0 t)) ∧ w'.cell? ⟨w.heap.size + 2, 0, none⟩ = some (.int .u64 (ww3 a)) ∧ w'.cell? ⟨w.heap.size + 2, 1, none⟩ = some (.int .u64 (ww2 a)) ∧ w'.cell? ⟨w.heap.size + 2, 2, none⟩ = some (.int .u64 (ww1 a)) ∧ w'.cell? ⟨w.heap.size + 2, 3, none⟩ = some (.int .u64 (ww0 a)) ∧ w'.cell? ⟨w.heap.size + 2, 4, none⟩ = some (.int .u64 (ww3 b)) ∧ w'.cell? ⟨w.heap.size + 2, 5, none⟩ = some (.int .u64 (ww2 b)) ∧ w'.cell? ⟨w.heap.size + 2, 6, none⟩ = some (.int .u64 (ww1 b)) ∧ w'.cell? ⟨w.heap.size + 2, 7, none⟩ = some (.int .u64 (ww0 b)) ∧ w'.cell? ⟨w.heap.size + 2, 8, none⟩ = some (.int .u64 (ww3 c)) ∧ w'.cell? ⟨w.heap.size + 2, 9, none⟩ = some (.int .u64 (ww2 c)) ∧ w'.cell? ⟨w.heap.size + 2, 10, none⟩ = some (.int .u64 (ww1 c)) ∧ w'.cell? ⟨w.heap.size + 2, 11, none⟩ = some (.int .u64 (ww0 c))) ((refine t3_cells ?_ <;> repeat (first | (with_reducible exact T0) | (with_reducible refine ArgsB.drew ?_) | (with_reducible refine ArgsB.alloc ?_ _) | (with_reducible refine ArgsB.set8g ?_ (by simp; omega) _ _ _ _ _ _ _ _))))
         (first
           | (go_at_call 42; refine (C2 _).mono ?_; rintro e v21 ⟨rfl, hB⟩; (first | (have T1 : ArgsB w v21 _ := (by with_reducible exact T0.step hB); have tltv21 := (T0.b 3 rfl).lt; have lBXv21 := BX.lt; replace BX := BX.step hB; have lBYv21 := BY.lt; replace BY := BY.step hB; (try (replace G0 := G0.step hB; obtain ⟨j0c, j0f, j1c, j1f, j2c, j2f, j3c, j3f, j4c, j4f, j5c, j5f, j6c, j6f, j7c, j7f⟩ := G0.cf8; have jlt := G0.lt))) | (have T1 : ArgsB w v21 _ := (by with_reducible exact T0.drew.step hB); have tltv21 := (T0.b 3 rfl).lt; have lBXv21 := BX.lt; replace BX := BX.drew.step hB; have lBYv21 := BY.lt; replace BY := BY.drew.step hB; (try (replace G0 := G0.drew.step hB; obtain ⟨j0c, j0f, j1c, j1f, j2c, j2f, j3c, j3f, j4c, j4f, j5c, j5f, j6c, j6f, j7c, j7f⟩ := G0.cf8; have jlt := G0.lt))) | (have T1 : ArgsB w v21 _ := (by with_reducible exact (T0.alloc _).step hB); have tltv21 := (T0.b 3 rfl).lt; have lBXv21 := BX.lt; replace BX := (BX.alloc _).step hB; have lBYv21 := BY.lt; replace BY := (BY.alloc _).step hB; (have G0 := (Blk.new _ [.int .u64 0, .int .u64 0, .int .u64 0, .int .u64 0, .int .u64 0, .int .u64 0, .int .u64 0, .int .u64 0] _ rfl).step hB; obtain ⟨j0c, j0f, j1c, j1f, j2c, j2f, j3c, j3f, j4c, j4f, j5c, j5f, j6c, j6f, j7c, j7f⟩ := G0.cf8; have jlt := G0.lt)) | (have T1 : ArgsB w v21 _ := (by with_reducible exact (T0.alloc _).drew.step hB); have tltv21 := (T0.b 3 rfl).lt; have lBXv21 := BX.lt; replace BX := (BX.alloc _).drew.step hB; have lBYv21 := BY.lt; replace BY := (BY.alloc _).drew.step hB; (have G0 := (Blk.new _ [.int .u64 0, .int .u64 0, .int .u64 0, .int .u64 0, .int .u64 0, .int .u64 0, .int .u64 0, .int .u64 0] _ rfl).drew.step hB; obtain ⟨j0c, j0f, j1c, j1f, j2c, j2f, j3c, j3f, j4c, j4f, j5c, j5f, j6c, j6f, j7c, j7f⟩ := G0.cf8; have jlt := G0.lt))); clear T0; have T0 := T1; clear T1; clear hB)
           | (go_at_call 33; refine (D2 _).mono ?_; rintro e v22 ⟨rfl, hB⟩; (first | (have T1 : ArgsB w v22 _ := (by with_reducible exact T0.step hB); have tltv22 := (T0.b 3 rfl).lt; have lBXv22 := BX.lt; replace BX := BX.step hB; have lBYv22 := BY.lt; replace BY := BY.step hB; (try (replace G0 := G0.step hB; obtain ⟨j0c, j0f, j1c, j1f, j2c, j2f, j3c, j3f, j4c, j4f, j5c, j5f, j6c, j6f, j7c, j7f⟩ := G0.cf8; have jlt := G0.lt))) | (have T1 : ArgsB w v22 _ := (by with_reducible exact T0.drew.step hB); have tltv22 := (T0.b 3 rfl).lt; have lBXv22 := BX.lt; replace BX := BX.drew.step hB; have lBYv22 := BY.lt; replace BY := BY.drew.step hB; (try (replace G0 := G0.drew.step hB; obtain ⟨j0c, j0f, j1c, j1f, j2c, j2f, j3c, j3f, j4c, j4f, j5c, j5f, j6c, j6f, j7c, j7f⟩ := G0.cf8; have jlt := G0.lt))) | (have T1 : ArgsB w v22 _ := (by with_reducible exact (T0.alloc _).step hB); have tltv22 := (T0.b 3 rfl).lt; have lBXv22 := BX.lt; replace BX := (BX.alloc _).step hB; have lBYv22 := BY.lt; replace BY := (BY.alloc _).step hB; (have G0 := (Blk.new _ [.int .u64 0, .int .u64 0, .int .u64 0, .int .u64 0, .int .u64 0, .int .u64 0, .int .u64 0, .int .u64 0] _ rfl).step hB; obtain ⟨j0c, j0f, j1c, j1f, j2c, j2f, j3c, j3f, j4c, j4f, j5c, j5f, j6c, j6f, j7c, j7f⟩ := G0.cf8; have jlt := G0.lt)) | (have T1 : ArgsB w v22 _ := (by with_reducible exact (T0.alloc _).drew.step hB); have tltv22 := (T0.b 3 rfl).lt; have lBXv22 := BX.lt; replace BX := (BX.alloc _).drew.step hB; have lBYv22 := BY.lt; replace BY := (BY.alloc _).drew.step hB; (have G0 := (Blk.new _ [.int .u64 0, .int .u64 0, .int .u64 0, .int .u64 0, .int .u64 0, .int .u64 0, .int .u64 0, .int .u64 0] _ rfl).drew.step hB; obtain ⟨j0c, j0f, j1c, j1f, j2c, j2f, j3c, j3f, j4c, j4f, j5c, j5f, j6c, j6f, j7c, j7f⟩ := G0.cf8; have jlt := G0.lt))); clear T0; have T0 := T1; clear T1; clear hB))
       all_goals go_wp2_with fail
       all_goals go_meet
       all_goals have hl := (T0.b 3 rfl).lt
       all_goals have hlX := BX.lt
       all_goals have hlY := BY.lt
       all_goals first | (with_reducible exact ⟨cutK_new T0 (by omega), BX.alloc _, BY.alloc _⟩) | (with_reducible exact ⟨cutK_set T0 G0 (by omega) (by simp; omega), BX.set8 (by omega), BY.set8 (by omega)⟩)
     case rest =>
       clear T0 h0 C2 D2 BX BY
       obtain ⟨⟨gZ, hp, hgZ, T0, BZ⟩, BX, BY⟩ := hcut
       subst hp
       have h0 := (T0.b 3 rfl).lt
       clear h0
       go_upto_region 4 with fail
       go_region_held3 (fun w' => w'.cell? ⟨gX, 0, none⟩ = some (.int .u64 (lw0 X)) ∧ w'.cell? ⟨gX, 1, none⟩ = some (.int .u64 (lw1 X)) ∧ w'.cell? ⟨gX, 2, none⟩ = some (.int .u64 (lw2 X)) ∧ w'.cell? ⟨gX, 3, none⟩ = some (.int .u64 (lw3 X)) ∧ w'.cell? ⟨gX, 4, none⟩ = some (.int .u64 (lw4 X)) ∧ w'.cell? ⟨gX, 5, none⟩ = some (.int .u64 (lw5 X)) ∧ w'.cell? ⟨gX, 6, none⟩ = some (.int .u64 (lw6 X)) ∧ w'.cell? ⟨gX, 7, none⟩ = some (.int .u64 (lw7 X)) ∧ w'.cell? ⟨gY, 0, none⟩ = some (.int .u64 (lw0 Y)) ∧ w'.cell? ⟨gY, 1, none⟩ = some (.int .u64 (lw1 Y)) ∧ w'.cell? ⟨gY, 2, none⟩ = some (.int .u64 (lw2 Y)) ∧ w'.cell? ⟨gY, 3, none⟩ = some (.int .u64 (lw3 Y)) ∧ w'.cell? ⟨gY, 4, none⟩ = some (.int .u64 (lw4 Y)) ∧ w'.cell? ⟨gY, 5, none⟩ = some (.int .u64 (lw5 Y)) ∧ w'.cell? ⟨gY, 6, none⟩ = some (.int .u64 (lw6 Y)) ∧ w'.cell? ⟨gY, 7, none⟩ = some (.int .u64 (lw7 Y)) ∧ w'.cell? ⟨gZ, 0, none⟩ = some (.int .u64 (lw0 Z)) ∧ w'.cell? ⟨gZ, 1, none⟩ = some (.int .u64 (lw1 Z)) ∧ w'.cell? ⟨gZ, 2, none⟩ = some (.int .u64 (lw2 Z)) ∧ w'.cell? ⟨gZ, 3, none⟩ = some (.int .u64 (lw3 Z)) ∧ w'.cell? ⟨gZ, 4, none⟩ = some (.int .u64 (lw4 Z)) ∧ w'.cell? ⟨gZ, 5, none⟩ = some (.int .u64 (lw5 Z)) ∧ w'.cell? ⟨gZ, 6, none⟩ = some (.int .u64 (lw6 Z)) ∧ w'.cell? ⟨gZ, 7, none⟩ = some (.int .u64 (lw7 Z))) (first | (with_reducible exact tl_cells BX BY BZ) | (with_reducible exact tl_cells BX.drew BY.drew BZ.drew) | (with_reducible exact tl_cells8 BX BY BZ (by omega) (by omega) (by omega)))
         (first
           | (go_at_call 73; refine (E1 _).mono ?_; rintro e f1 ⟨rfl, hB⟩; (first | (replace BX := BX.step hB; replace BY := BY.step hB; replace BZ := BZ.step hB; replace T0 := T0.step hB) | (replace BX := BX.drew.step hB; replace BY := BY.drew.step hB; replace BZ := BZ.drew.step hB; replace T0 := T0.drew.step hB)); clear hB)
           | (go_at_call 43; refine (E2 _).mono ?_; rintro e f2 ⟨rfl, hB⟩; (first | (replace BX := BX.step hB; replace BY := BY.step hB; replace BZ := BZ.step hB; replace T0 := T0.step hB) | (replace BX := BX.drew.step hB; replace BY := BY.drew.step hB; replace BZ := BZ.drew.step hB; replace T0 := T0.drew.step hB)); clear hB; have o0 := (T0.b 3 rfl).c 0 rfl; have p0 := (T0.b 3 rfl).f 0 rfl; have o1 := (T0.b 3 rfl).c 1 rfl; have p1 := (T0.b 3 rfl).f 1 rfl; have o2 := (T0.b 3 rfl).c 2 rfl; have p2 := (T0.b 3 rfl).f 2 rfl; have o3 := (T0.b 3 rfl).c 3 rfl; have p3 := (T0.b 3 rfl).f 3 rfl; have o4 := (T0.b 3 rfl).c 4 rfl; have p4 := (T0.b 3 rfl).f 4 rfl; have o5 := (T0.b 3 rfl).c 5 rfl; have p5 := (T0.b 3 rfl).f 5 rfl; have o6 := (T0.b 3 rfl).c 6 rfl; have p6 := (T0.b 3 rfl).f 6 rfl; have o7 := (T0.b 3 rfl).c 7 rfl; have p7 := (T0.b 3 rfl).f 7 rfl; have olt := (T0.b 3 rfl).lt))
       all_goals have HB := T0.below
       all_goals clear BX BY BZ T0
       all_goals go_wp2
       all_goals refine bodyPost_ret (v := LV (X - Y + Z)) (by simp [results, Tryz.results117, go_sem, o0, o1, o2, o3, o4, o5, o6, o7]) rfl ?_
       all_goals refine ⟨by rw [HO.out], ?_⟩
       all_goals repeat' (refine Below.setCell ?_ (by simp; try omega) _)
       all_goals first | exact HB | exact HB.drew
theorem det_abs {x y z u v t a b c : Int} (sx : small x = true) (sy : small y = true) (sz : small z = true) (su : small u = true) (sv : small v = true) (st : small t = true) (sa : small a = true) (sb : small b = true) (sc : small c = true) : (detJ x y z u v t a b c).natAbs ≤ 10601082388670305977499785004457511094964903381253713748729637207755718656 := by
 have e0 := triple_abs sa (minor_abs sy sz sv st)
 have e1 := triple_abs sb (minor_abs sx sz su st)
 have e2 := triple_abs sc (minor_abs sx sy su sv)
 unfold detJ
 omega
theorem turn_det (x y z u v t a b c : Int) (sx : small x = true) (sy : small y = true) (sz : small z = true) (su : small u = true) (sv : small v = true) (st : small t = true) (sa : small a = true) (sb : small b = true) (sc : small c = true) (w : World) : Calls Tryz.prog 94 #[PV x y z, PV u v t, PV a b c] w (VP (.int .i64 (turnJ x y z u v t a b c)) w) := by
 have T0 : ArgsB w (((w.alloc (.cells #[.int .u64 (ww3 x), .int .u64 (ww2 x), .int .u64 (ww1 x), .int .u64 (ww0 x), .int .u64 (ww3 y), .int .u64 (ww2 y), .int .u64 (ww1 y), .int .u64 (ww0 y), .int .u64 (ww3 z), .int .u64 (ww2 z), .int .u64 (ww1 z), .int .u64 (ww0 z)] 40)).alloc (.cells #[.int .u64 (ww3 u), .int .u64 (ww2 u), .int .u64 (ww1 u), .int .u64 (ww0 u), .int .u64 (ww3 v), .int .u64 (ww2 v), .int .u64 (ww1 v), .int .u64 (ww0 v), .int .u64 (ww3 t), .int .u64 (ww2 t), .int .u64 (ww1 t), .int .u64 (ww0 t)] 40)).alloc (.cells #[.int .u64 (ww3 a), .int .u64 (ww2 a), .int .u64 (ww1 a), .int .u64 (ww0 a), .int .u64 (ww3 b), .int .u64 (ww2 b), .int .u64 (ww1 b), .int .u64 (ww0 b), .int .u64 (ww3 c), .int .u64 (ww2 c), .int .u64 (ww1 c), .int .u64 (ww0 c)] 40)) [[.int .u64 (ww3 x), .int .u64 (ww2 x), .int .u64 (ww1 x), .int .u64 (ww0 x), .int .u64 (ww3 y), .int .u64 (ww2 y), .int .u64 (ww1 y), .int .u64 (ww0 y), .int .u64 (ww3 z), .int .u64 (ww2 z), .int .u64 (ww1 z), .int .u64 (ww0 z)], [.int .u64 (ww3 u), .int .u64 (ww2 u), .int .u64 (ww1 u), .int .u64 (ww0 u), .int .u64 (ww3 v), .int .u64 (ww2 v), .int .u64 (ww1 v), .int .u64 (ww0 v), .int .u64 (ww3 t), .int .u64 (ww2 t), .int .u64 (ww1 t), .int .u64 (ww0 t)], [.int .u64 (ww3 a), .int .u64 (ww2 a), .int .u64 (ww1 a), .int .u64 (ww0 a), .int .u64 (ww3 b), .int .u64 (ww2 b), .int .u64 (ww1 b), .int .u64 (ww0 b), .int .u64 (ww3 c), .int .u64 (ww2 c), .int .u64 (ww1 c), .int .u64 (ww0 c)]] := ar3 _ _ _ _ _ _ w
 have C := corners_det x y z u v t a b c sx sy sz su sv st sa sb sc
 have E := signL_det (detJ x y z u v t a b c) (lr_abs (by have := det_abs sx sy sz su sv st sa sb sc; omega))
 have HO : Hid (turnJ x y z u v t a b c = cmpI (detJ x y z u v t a b c) 0) := rfl
 clear sx sy sz su sv st sa sb sc
 generalize detJ x y z u v t a b c = D at *
 have q := t3_cells3 T0
 go_enter Tryz.func94, Tryz.ntmps94
 go_upto_region 1 with fail
 generalize (((w.alloc (.cells #[.int .u64 (ww3 x), .int .u64 (ww2 x), .int .u64 (ww1 x), .int .u64 (ww0 x), .int .u64 (ww3 y), .int .u64 (ww2 y), .int .u64 (ww1 y), .int .u64 (ww0 y), .int .u64 (ww3 z), .int .u64 (ww2 z), .int .u64 (ww1 z), .int .u64 (ww0 z)] 40)).alloc (.cells #[.int .u64 (ww3 u), .int .u64 (ww2 u), .int .u64 (ww1 u), .int .u64 (ww0 u), .int .u64 (ww3 v), .int .u64 (ww2 v), .int .u64 (ww1 v), .int .u64 (ww0 v), .int .u64 (ww3 t), .int .u64 (ww2 t), .int .u64 (ww1 t), .int .u64 (ww0 t)] 40)).alloc (.cells #[.int .u64 (ww3 a), .int .u64 (ww2 a), .int .u64 (ww1 a), .int .u64 (ww0 a), .int .u64 (ww3 b), .int .u64 (ww2 b), .int .u64 (ww1 b), .int .u64 (ww0 b), .int .u64 (ww3 c), .int .u64 (ww2 c), .int .u64 (ww1 c), .int .u64 (ww0 c)] 40)) = W at *
 obtain ⟨q0, q1, q2, q3, q4, q5, q6, q7, q8, q9, q10, q11, q12, q13, q14, q15, q16, q17, q18, q19, q20, q21, q22, q23, q24, q25, q26, q27, q28, q29, q30, q31, q32, q33, q34, q35⟩ := q
 have HB := T0.below
 clear T0
 go_wp2_with fail
 refine (C _).mono ?_
 rintro e w1 ⟨rfl, hB⟩
 replace HB := HB.trans (hB.mono HB.size)
 clear hB q0 q1 q2 q3 q4 q5 q6 q7 q8 q9 q10 q11 q12 q13 q14 q15 q16 q17 q18 q19 q20 q21 q22 q23 q24 q25 q26 q27 q28 q29 q30 q31 q32 q33 q34 q35
 go_wp2_with fail
 refine (E _).mono ?_
 rintro e w2 ⟨rfl, hB⟩
 replace HB := HB.trans (hB.mono HB.size)
 clear hB
 go_wp2
 go_ret
 exact ⟨by rw [HO.out]; rfl, HB⟩
def oriI (x y z u v t a b c : Int) : Int := if ptB x y z && ptB u v t && ptB a b c then turnI x y z u v t a b c else 0
theorem turn_same (x y z u v t a b c : Int) : turnJ x y z u v t a b c = turnI x y z u v t a b c := by
 unfold turnJ turnI
 congr 1
 grind
theorem implOrient_det (x y z u v t a b c : Int) (hx : told x = true) (hy : told y = true) (hz : told z = true) (hu : told u = true) (hv : told v = true) (ht : told t = true) (ha : told a = true) (hb : told b = true) (hc : told c = true) (w : World) : Calls Tryz.prog 55 #[PV x y z, PV u v t, PV a b c] w (VP (.int .i64 (oriI x y z u v t a b c)) w) := by
 have T0 : ArgsB w (((w.alloc (.cells #[.int .u64 (ww3 x), .int .u64 (ww2 x), .int .u64 (ww1 x), .int .u64 (ww0 x), .int .u64 (ww3 y), .int .u64 (ww2 y), .int .u64 (ww1 y), .int .u64 (ww0 y), .int .u64 (ww3 z), .int .u64 (ww2 z), .int .u64 (ww1 z), .int .u64 (ww0 z)] 40)).alloc (.cells #[.int .u64 (ww3 u), .int .u64 (ww2 u), .int .u64 (ww1 u), .int .u64 (ww0 u), .int .u64 (ww3 v), .int .u64 (ww2 v), .int .u64 (ww1 v), .int .u64 (ww0 v), .int .u64 (ww3 t), .int .u64 (ww2 t), .int .u64 (ww1 t), .int .u64 (ww0 t)] 40)).alloc (.cells #[.int .u64 (ww3 a), .int .u64 (ww2 a), .int .u64 (ww1 a), .int .u64 (ww0 a), .int .u64 (ww3 b), .int .u64 (ww2 b), .int .u64 (ww1 b), .int .u64 (ww0 b), .int .u64 (ww3 c), .int .u64 (ww2 c), .int .u64 (ww1 c), .int .u64 (ww0 c)] 40)) [[.int .u64 (ww3 x), .int .u64 (ww2 x), .int .u64 (ww1 x), .int .u64 (ww0 x), .int .u64 (ww3 y), .int .u64 (ww2 y), .int .u64 (ww1 y), .int .u64 (ww0 y), .int .u64 (ww3 z), .int .u64 (ww2 z), .int .u64 (ww1 z), .int .u64 (ww0 z)], [.int .u64 (ww3 u), .int .u64 (ww2 u), .int .u64 (ww1 u), .int .u64 (ww0 u), .int .u64 (ww3 v), .int .u64 (ww2 v), .int .u64 (ww1 v), .int .u64 (ww0 v), .int .u64 (ww3 t), .int .u64 (ww2 t), .int .u64 (ww1 t), .int .u64 (ww0 t)], [.int .u64 (ww3 a), .int .u64 (ww2 a), .int .u64 (ww1 a), .int .u64 (ww0 a), .int .u64 (ww3 b), .int .u64 (ww2 b), .int .u64 (ww1 b), .int .u64 (ww0 b), .int .u64 (ww3 c), .int .u64 (ww2 c), .int .u64 (ww1 c), .int .u64 (ww0 c)]] := ar3 _ _ _ _ _ _ w
 have R1 := pright_det x y z hx hy hz
 have R2 := pright_det u v t hu hv ht
 have R3 := pright_det a b c ha hb hc
 clear hx hy hz hu hv ht ha hb hc
 go_enter Tryz.func55, Tryz.ntmps55
 go_wp2_with fail
 generalize (((w.alloc (.cells #[.int .u64 (ww3 x), .int .u64 (ww2 x), .int .u64 (ww1 x), .int .u64 (ww0 x), .int .u64 (ww3 y), .int .u64 (ww2 y), .int .u64 (ww1 y), .int .u64 (ww0 y), .int .u64 (ww3 z), .int .u64 (ww2 z), .int .u64 (ww1 z), .int .u64 (ww0 z)] 40)).alloc (.cells #[.int .u64 (ww3 u), .int .u64 (ww2 u), .int .u64 (ww1 u), .int .u64 (ww0 u), .int .u64 (ww3 v), .int .u64 (ww2 v), .int .u64 (ww1 v), .int .u64 (ww0 v), .int .u64 (ww3 t), .int .u64 (ww2 t), .int .u64 (ww1 t), .int .u64 (ww0 t)] 40)).alloc (.cells #[.int .u64 (ww3 a), .int .u64 (ww2 a), .int .u64 (ww1 a), .int .u64 (ww0 a), .int .u64 (ww3 b), .int .u64 (ww2 b), .int .u64 (ww1 b), .int .u64 (ww0 b), .int .u64 (ww3 c), .int .u64 (ww2 c), .int .u64 (ww1 c), .int .u64 (ww0 c)] 40)) = W at *
 refine (R1 _).mono ?_
 rintro e w1 ⟨rfl, hB⟩
 replace T0 := T0.step hB
 clear hB
 by_cases h1 : ptB x y z = true
 · rw [h1]
   have X0 : Blk _ w.heap.size _ := T0.b 0 rfl; have Y0 : Blk _ (w.heap.size + 1) _ := T0.b 1 rfl; have Z0 : Blk _ (w.heap.size + 1 + 1) _ := T0.b 2 rfl; obtain ⟨p0, p1, p2, p3, p4, p5, p6, p7, p8, p9, p10, p11⟩ := X0.cs12; obtain ⟨q0, q1, q2, q3, q4, q5, q6, q7, q8, q9, q10, q11⟩ := Y0.cs12; obtain ⟨r0, r1, r2, r3, r4, r5, r6, r7, r8, r9, r10, r11⟩ := Z0.cs12; clear X0 Y0 Z0
   go_wp2_with fail
   refine (R2 _).mono ?_
   rintro e w2 ⟨rfl, hB⟩
   replace T0 := T0.step hB
   clear hB p0 q0 r0 p1 q1 r1 p2 q2 r2 p3 q3 r3 p4 q4 r4 p5 q5 r5 p6 q6 r6 p7 q7 r7 p8 q8 r8 p9 q9 r9 p10 q10 r10 p11 q11 r11
   by_cases h2 : ptB u v t = true
   · rw [h2]
     have X0 : Blk _ w.heap.size _ := T0.b 0 rfl; have Y0 : Blk _ (w.heap.size + 1) _ := T0.b 1 rfl; have Z0 : Blk _ (w.heap.size + 1 + 1) _ := T0.b 2 rfl; obtain ⟨p0, p1, p2, p3, p4, p5, p6, p7, p8, p9, p10, p11⟩ := X0.cs12; obtain ⟨q0, q1, q2, q3, q4, q5, q6, q7, q8, q9, q10, q11⟩ := Y0.cs12; obtain ⟨r0, r1, r2, r3, r4, r5, r6, r7, r8, r9, r10, r11⟩ := Z0.cs12; clear X0 Y0 Z0
     go_wp2_with fail
     refine (R3 _).mono ?_
     rintro e w3 ⟨rfl, hB⟩
     replace T0 := T0.step hB
     clear hB p0 q0 r0 p1 q1 r1 p2 q2 r2 p3 q3 r3 p4 q4 r4 p5 q5 r5 p6 q6 r6 p7 q7 r7 p8 q8 r8 p9 q9 r9 p10 q10 r10 p11 q11 r11
     by_cases h3 : ptB a b c = true
     · rw [h3]
       have HO : Hid (oriI x y z u v t a b c = turnI x y z u v t a b c) := by show _ = _; unfold oriI; rw [h1, h2, h3]; rfl
       obtain ⟨-, sx, sy, sz⟩ := ptB_small h1
       obtain ⟨-, su, sv, st⟩ := ptB_small h2
       obtain ⟨-, sa, sb, sc⟩ := ptB_small h3
       have C := turn_det x y z u v t a b c sx sy sz su sv st sa sb sc
       rw [turn_same] at C
       clear h1 h2 h3 R1 R2 R3 sx sy sz su sv st sa sb sc
       generalize turnI x y z u v t a b c = o at *
       have X0 : Blk _ w.heap.size _ := T0.b 0 rfl; have Y0 : Blk _ (w.heap.size + 1) _ := T0.b 1 rfl; have Z0 : Blk _ (w.heap.size + 1 + 1) _ := T0.b 2 rfl; obtain ⟨p0, p1, p2, p3, p4, p5, p6, p7, p8, p9, p10, p11⟩ := X0.cs12; obtain ⟨q0, q1, q2, q3, q4, q5, q6, q7, q8, q9, q10, q11⟩ := Y0.cs12; obtain ⟨r0, r1, r2, r3, r4, r5, r6, r7, r8, r9, r10, r11⟩ := Z0.cs12; clear X0 Y0 Z0
       go_wp2_with fail
       refine (C _).mono ?_
       rintro e w4 ⟨rfl, hB⟩
       have HB := (T0.step hB).below
       clear hB T0 C p0 q0 r0 p1 q1 r1 p2 q2 r2 p3 q3 r3 p4 q4 r4 p5 q5 r5 p6 q6 r6 p7 q7 r7 p8 q8 r8 p9 q9 r9 p10 q10 r10 p11 q11 r11
       go_wp2
       go_ret
       exact ⟨by rw [HO.out]; rfl, HB⟩
     · replace h3 := Bool.eq_false_iff.2 h3
       rw [h3]
       have HO : Hid (oriI x y z u v t a b c = 0) := by show _ = _; unfold oriI; rw [h3]; simp
       have HB := T0.below
       clear T0 h1 h2 h3 R1 R2 R3
       go_wp2
       go_ret
       exact ⟨by rw [HO.out]; rfl, HB⟩
   · replace h2 := Bool.eq_false_iff.2 h2
     rw [h2]
     have HO : Hid (oriI x y z u v t a b c = 0) := by show _ = _; unfold oriI; rw [h2]; simp
     have HB := T0.below
     clear T0 h1 h2 R1 R2 R3
     go_wp2
     go_ret
     exact ⟨by rw [HO.out]; rfl, HB⟩
 · replace h1 := Bool.eq_false_iff.2 h1
   rw [h1]
   have HO : Hid (oriI x y z u v t a b c = 0) := by show _ = _; unfold oriI; rw [h1]; simp
   have HB := T0.below
   clear T0 h1 R1 R2 R3
   go_wp2
   go_ret
   exact ⟨by rw [HO.out]; rfl, HB⟩
theorem in6_seg {a b c d : Int} (h : segOk a b c d = true) : (-1000000 ≤ a ∧ a ≤ 1000000) ∧ (-1000000 ≤ b ∧ b ≤ 1000000) ∧ (-1000000 ≤ c ∧ c ≤ 1000000) ∧ (-1000000 ≤ d ∧ d ≤ 1000000) := by
 unfold segOk spotOk at h
 simp at h
 omega
theorem ptB_spot {a b : Int} (ha : -1000000 ≤ a ∧ a ≤ 1000000) (hb : -1000000 ≤ b ∧ b ≤ 1000000) : ptB a b 1 = true := by
 unfold ptB
 have h1 : small 1 = true := by decide
 rw [small_int (x := a) (by omega) (by omega), small_int (x := b) (by omega) (by omega), h1]
 simp
theorem told6 {a : Int} (ha : -1000000 ≤ a ∧ a ≤ 1000000) : told a = true := told_small (small_int (by omega) (by omega))
def sideI (a b c d x y z : Int) : Int := if segOk a b c d && ptB x y z then turnI a b 1 c d 1 x y z else 0
theorem l3Spot_det (a b : Int) (ha : -1000000 ≤ a ∧ a ≤ 1000000) (hb : -1000000 ≤ b ∧ b ≤ 1000000) (w : World) : Calls Tryz.prog 88 #[Sp a b] w (L3P 8 a b 1 w) := by
 refine (l3Spot_any a b (by omega) (by omega) (by omega) (by omega) w).mono ?_
 rintro e w' ⟨s1, o1, n1, c1, d1, s2, o2, n2, c2, d2, s3, o3, n3, c3, d3, rfl, N1, N2, N3, hB⟩
 exact ⟨s1, o1, n1, c1, d1, s2, o2, n2, c2, d2, s3, o3, n3, c3, d3, rfl, num_more N1 (by omega), num_more N2 (by omega), num_more N3 (by omega), hB⟩
theorem implSideOf_det (a b c d x y z : Int) (hx : told x = true) (hy : told y = true) (hz : told z = true) (w : World) : Calls Tryz.prog 21 #[Sg a b c d, PV x y z] w (VP (.int .i64 (sideI a b c d x y z)) w) := by
 have T0 : ArgsB w ((w.alloc (.cells #[.int .i64 a, .int .i64 b, .int .i64 c, .int .i64 d] 27)).alloc (.cells #[.int .u64 (ww3 x), .int .u64 (ww2 x), .int .u64 (ww1 x), .int .u64 (ww0 x), .int .u64 (ww3 y), .int .u64 (ww2 y), .int .u64 (ww1 y), .int .u64 (ww0 y), .int .u64 (ww3 z), .int .u64 (ww2 z), .int .u64 (ww1 z), .int .u64 (ww0 z)] 40)) [[.int .i64 a, .int .i64 b, .int .i64 c, .int .i64 d], [.int .u64 (ww3 x), .int .u64 (ww2 x), .int .u64 (ww1 x), .int .u64 (ww0 x), .int .u64 (ww3 y), .int .u64 (ww2 y), .int .u64 (ww1 y), .int .u64 (ww0 y), .int .u64 (ww3 z), .int .u64 (ww2 z), .int .u64 (ww1 z), .int .u64 (ww0 z)]] := ar2 _ _ _ _ w
 have SO := fun w => implSegOk_any a b c d _ rfl w
 by_cases hs : segOk a b c d = true
 · obtain ⟨i1, i2, i3, i4⟩ := in6_seg hs
   have EN := fun w => ends_det a b c d (by omega) (by omega) (by omega) (by omega) (by omega) (by omega) (by omega) (by omega) w
   have OR := fun w => implOrient_det a b 1 c d 1 x y z (told6 i1) (told6 i2) (by decide) (told6 i3) (told6 i4) (by decide) hx hy hz w
   have HO : Hid (sideI a b c d x y z = oriI a b 1 c d 1 x y z) := by show _ = _; unfold sideI oriI; rw [hs, ptB_spot i1 i2, ptB_spot i3 i4]; rfl
   rw [hs] at SO
   clear hs i1 i2 i3 i4 hx hy hz
   generalize oriI a b 1 c d 1 x y z = o at *
   go_enter Tryz.func21, Tryz.ntmps21
   go_wp2_with fail
   generalize ((w.alloc (.cells #[.int .i64 a, .int .i64 b, .int .i64 c, .int .i64 d] 27)).alloc (.cells #[.int .u64 (ww3 x), .int .u64 (ww2 x), .int .u64 (ww1 x), .int .u64 (ww0 x), .int .u64 (ww3 y), .int .u64 (ww2 y), .int .u64 (ww1 y), .int .u64 (ww0 y), .int .u64 (ww3 z), .int .u64 (ww2 z), .int .u64 (ww1 z), .int .u64 (ww0 z)] 40)) = W at *
   refine (SO _).mono ?_
   rintro e w1 ⟨rfl, hB⟩
   replace T0 := T0.step hB
   clear hB SO
   have Y1 : Blk _ w.heap.size _ := T0.b 0 rfl; obtain ⟨g0, g1, g2, g3⟩ := Y1.cs4; clear Y1
   go_wp2_with fail
   refine (EN _).mono ?_
   rintro e w2 ⟨rfl, hB⟩
   replace T0 := ((T0.step hB).alloc (.cells #[.int .u64 (ww3 a), .int .u64 (ww2 a), .int .u64 (ww1 a), .int .u64 (ww0 a), .int .u64 (ww3 b), .int .u64 (ww2 b), .int .u64 (ww1 b), .int .u64 (ww0 b), .int .u64 (ww3 1), .int .u64 (ww2 1), .int .u64 (ww1 1), .int .u64 (ww0 1)] 40)).alloc (.cells #[.int .u64 (ww3 c), .int .u64 (ww2 c), .int .u64 (ww1 c), .int .u64 (ww0 c), .int .u64 (ww3 d), .int .u64 (ww2 d), .int .u64 (ww1 d), .int .u64 (ww0 d), .int .u64 (ww3 1), .int .u64 (ww2 1), .int .u64 (ww1 1), .int .u64 (ww0 1)] 40)
   clear hB EN g0 g1 g2 g3
   have Y0 : Blk _ (w.heap.size + 1) _ := T0.b 1 rfl; obtain ⟨q0, q1, q2, q3, q4, q5, q6, q7, q8, q9, q10, q11⟩ := Y0.cs12; have ql := Y0.lt; clear Y0
   go_wp2_with fail
   refine (OR _).mono ?_
   rintro e w3 ⟨rfl, hB⟩
   have HB := (T0.step hB).below
   clear hB T0 OR q0 q1 q2 q3 q4 q5 q6 q7 q8 q9 q10 q11 ql
   go_wp2
   go_ret
   exact ⟨by rw [HO.out]; rfl, HB⟩
 · replace hs := Bool.eq_false_iff.2 hs
   have HO : Hid (sideI a b c d x y z = 0) := by show _ = _; unfold sideI; rw [hs]; rfl
   rw [hs] at SO
   clear hs hx hy hz
   go_enter Tryz.func21, Tryz.ntmps21
   go_wp2_with fail
   generalize ((w.alloc (.cells #[.int .i64 a, .int .i64 b, .int .i64 c, .int .i64 d] 27)).alloc (.cells #[.int .u64 (ww3 x), .int .u64 (ww2 x), .int .u64 (ww1 x), .int .u64 (ww0 x), .int .u64 (ww3 y), .int .u64 (ww2 y), .int .u64 (ww1 y), .int .u64 (ww0 y), .int .u64 (ww3 z), .int .u64 (ww2 z), .int .u64 (ww1 z), .int .u64 (ww0 z)] 40)) = W at *
   refine (SO _).mono ?_
   rintro e w1 ⟨rfl, hB⟩
   have HB := (T0.step hB).below
   clear hB SO T0
   go_wp2
   go_ret
   exact ⟨by rw [HO.out]; rfl, HB⟩
abbrev In2 (x : Int) : Prop := -2000000 ≤ x ∧ x ≤ 2000000
abbrev In1 (x : Int) : Prop := -1000000 ≤ x ∧ x ≤ 1000000
theorem mul_in {p q M N : Int} (h1 : -M ≤ p) (h2 : p ≤ M) (h3 : -N ≤ q) (h4 : q ≤ N) : -(M * N) ≤ p * q ∧ p * q ≤ M * N := by
 have hM : 0 ≤ M := by omega
 have hN : 0 ≤ N := by omega
 have a1 : 0 ≤ (M - p) * (N - q) := Int.mul_nonneg (by omega) (by omega)
 have a2 : 0 ≤ (M + p) * (N + q) := Int.mul_nonneg (by omega) (by omega)
 have a3 : 0 ≤ (M - p) * (N + q) := Int.mul_nonneg (by omega) (by omega)
 have a4 : 0 ≤ (M + p) * (N - q) := Int.mul_nonneg (by omega) (by omega)
 constructor <;> grind
theorem prod2 {p q : Int} (hp : In2 p) (hq : In2 q) : -4000000000000 ≤ p * q ∧ p * q ≤ 4000000000000 := mul_in (M := 2000000) (N := 2000000) hp.1 hp.2 hq.1 hq.2
theorem minusS_det (x y u v : Int) (hx : In1 x) (hy : In1 y) (hu : In1 u) (hv : In1 v) (w : World) : Calls Tryz.prog 27 #[Sp x y, Sp u v] w (VP (Sp (x - u) (y - v)) w) := by
 obtain ⟨x1, x2⟩ := hx; obtain ⟨y1, y2⟩ := hy; obtain ⟨u1, u2⟩ := hu; obtain ⟨v1, v2⟩ := hv
 go_enter Tryz.func27, Tryz.ntmps27
 go_wp2
 refine bodyPost_ret (v := Sp (x - u) (y - v)) (by simp [results, Tryz.results27, go_sem]) rfl ?_
 exact ⟨rfl, (((Below.refl _ _).alloc (Nat.le_refl _) _).alloc (by simp) _).alloc (by simp; omega) _⟩
theorem cross_det (x y u v : Int) (hx : In2 x) (hy : In2 y) (hu : In2 u) (hv : In2 v) (w : World) : Calls Tryz.prog 31 #[Sp x y, Sp u v] w (VP (.int .i64 (x * v - y * u)) w) := by
 obtain ⟨p1, p2⟩ := prod2 hx hv; obtain ⟨q1, q2⟩ := prod2 hy hu
 clear hx hy hu hv
 go_enter Tryz.func31, Tryz.ntmps31
 go_wp2
 go_ret
 exact ⟨rfl, ((Below.refl _ _).alloc (Nat.le_refl _) _).alloc (by simp) _⟩
def CutG (w wx : World) (vss : List (List Value)) (us vs : List Value) (p q : Value) : Prop :=
 ∃ g g', p = .pointer (some ⟨g, 0, none⟩) ∧ q = .pointer (some ⟨g', 0, none⟩) ∧ g ≠ g' ∧ w.heap.size + vss.length ≤ g ∧ w.heap.size + vss.length ≤ g' ∧ ArgsB w wx vss ∧ Blk wx g us ∧ Blk wx g' vs
theorem cutG_nn {w X : World} {vss : List (List Value)} {us vs : List Value} {T T' : TypeId} (h : ArgsB w X vss) (hl : w.heap.size + vss.length ≤ X.heap.size) : CutG w ((X.alloc (.cells us.toArray T)).alloc (.cells vs.toArray T')) vss us vs (.pointer (some ⟨X.heap.size, 0, none⟩)) (.pointer (some ⟨X.heap.size + 1, 0, none⟩)) :=
 ⟨_, _, rfl, rfl, by omega, hl, by omega, (h.alloc _).alloc _, (Blk.new X us T rfl).alloc _, Blk.new _ vs T' (by simp)⟩
theorem cutG_nn' {w X : World} {vss : List (List Value)} {us vs : List Value} {T T' : TypeId} (h : ArgsB w X vss) (hl : w.heap.size + vss.length ≤ X.heap.size) : CutG w ((X.alloc (.cells vs.toArray T)).alloc (.cells us.toArray T')) vss us vs (.pointer (some ⟨X.heap.size + 1, 0, none⟩)) (.pointer (some ⟨X.heap.size, 0, none⟩)) :=
 ⟨_, _, rfl, rfl, by omega, by omega, hl, (h.alloc _).alloc _, Blk.new _ us T' (by simp), (Blk.new X vs T rfl).alloc _⟩
def turnZ (a b c d x y : Int) : Int := (c - a) * (y - b) - (d - b) * (x - a)
def sgZ (z : Int) : Int := if z < 0 then -1 else if 0 < z then 1 else 0
theorem ret_i {k : IntKind} {a b : Int} (h : b = a) : Ending.returned (.int k a) = .returned (.int k b) := by rw [h]
theorem l4TurnZ_det (a b c d x y : Int) (ha : In1 a) (hb : In1 b) (hc : In1 c) (hd : In1 d) (hx : In1 x) (hy : In1 y) (w : World) :
   Calls Tryz.prog 87 #[Sp a b, Sp c d, Sp x y] w (VP (.int .i64 (sgZ (turnZ a b c d x y))) w) := by
 have HR : turnZ a b c d x y = (c - a) * (y - b) - (d - b) * (x - a) := rfl
 obtain ⟨a1, a2⟩ := ha; obtain ⟨b1, b2⟩ := hb; obtain ⟨c1, c2⟩ := hc; obtain ⟨d1, d2⟩ := hd; obtain ⟨x1, x2⟩ := hx; obtain ⟨y1, y2⟩ := hy
 obtain ⟨p1, p2⟩ := mul_in (p := c - a) (q := y - b) (M := 2000000) (N := 2000000) (by omega) (by omega) (by omega) (by omega)
 obtain ⟨q1, q2⟩ := mul_in (p := d - b) (q := x - a) (M := 2000000) (N := 2000000) (by omega) (by omega) (by omega) (by omega)
 obtain ⟨p, hp⟩ : ∃ p, (c - a) * (y - b) = p := ⟨_, rfl⟩
 obtain ⟨q, hq⟩ : ∃ q, (d - b) * (x - a) = q := ⟨_, rfl⟩
 rw [hp] at p1 p2 HR
 rw [hq] at q1 q2 HR
 rw [HR]
 clear HR
 go_enter Tryz.func87, Tryz.ntmps87
 go_wp2
 all_goals go_ret
 all_goals exact ⟨ret_i (by unfold sgZ; split <;> (try split) <;> omega), (((Below.refl _ _).alloc (Nat.le_refl _) _).alloc (by simp) _).alloc (by simp; omega) _⟩
theorem turnZ_cells {a b c d x y : Int} {w W : World} (h : ArgsB w W [[.int .i64 a, .int .i64 b, .int .i64 c, .int .i64 d], [.int .i64 x, .int .i64 y]]) : (fun w' => w'.cell? ⟨w.heap.size, 0, none⟩ = some (.int .i64 a) ∧ w'.cell? ⟨w.heap.size, 1, none⟩ = some (.int .i64 b) ∧ w'.cell? ⟨w.heap.size, 2, none⟩ = some (.int .i64 c) ∧ w'.cell? ⟨w.heap.size, 3, none⟩ = some (.int .i64 d) ∧ w'.cell? ⟨w.heap.size + 1, 0, none⟩ = some (.int .i64 x) ∧ w'.cell? ⟨w.heap.size + 1, 1, none⟩ = some (.int .i64 y)) W :=
 ⟨(h.b 0 rfl).c 0 rfl, (h.b 0 rfl).c 1 rfl, (h.b 0 rfl).c 2 rfl, (h.b 0 rfl).c 3 rfl, (h.b 1 rfl).c 0 rfl, (h.b 1 rfl).c 1 rfl⟩
theorem turnToZ_det (a b c d x y : Int) (ha : In1 a) (hb : In1 b) (hc : In1 c) (hd : In1 d) (hx : In1 x) (hy : In1 y) (w : World) :
   Calls Tryz.prog 114 #[Sg a b c d, Sp x y] w (VP (.int .i64 (turnZ a b c d x y)) w) := by
 have M1 := minusS_det c d a b hc hd ha hb
 have M2 := minusS_det x y a b hx hy ha hb
 have CR := cross_det (c - a) (d - b) (x - a) (y - b) ⟨by omega, by omega⟩ ⟨by omega, by omega⟩ ⟨by omega, by omega⟩ ⟨by omega, by omega⟩
 have T0 : ArgsB w ((w.alloc (.cells #[.int .i64 a, .int .i64 b, .int .i64 c, .int .i64 d] 27)).alloc (.cells #[.int .i64 x, .int .i64 y] 25)) [[.int .i64 a, .int .i64 b, .int .i64 c, .int .i64 d], [.int .i64 x, .int .i64 y]] := ar2 _ _ _ _ w
 have tok1 : True := trivial
 clear ha hb hc hd hx hy
 go_enter Tryz.func114, Tryz.ntmps114
 go_upto_region 1 with fail
 generalize ((w.alloc (.cells #[.int .i64 a, .int .i64 b, .int .i64 c, .int .i64 d] 27)).alloc (.cells #[.int .i64 x, .int .i64 y] 25)) = W at *
 go_region_held3 (fun w' => w'.cell? ⟨w.heap.size, 0, none⟩ = some (.int .i64 a) ∧ w'.cell? ⟨w.heap.size, 1, none⟩ = some (.int .i64 b) ∧ w'.cell? ⟨w.heap.size, 2, none⟩ = some (.int .i64 c) ∧ w'.cell? ⟨w.heap.size, 3, none⟩ = some (.int .i64 d) ∧ w'.cell? ⟨w.heap.size + 1, 0, none⟩ = some (.int .i64 x) ∧ w'.cell? ⟨w.heap.size + 1, 1, none⟩ = some (.int .i64 y)) ((refine turnZ_cells ?_ <;> repeat (first | (with_reducible exact T0) | (with_reducible refine ArgsB.drew ?_))))
   (first
     | (go_at_call 27; have _t := tok1; refine (M1 _).mono ?_; rintro e w1 ⟨rfl, hB⟩; (first | (have T1 := T0.step hB) | (have T1 := T0.drew.step hB)); clear T0; have T0 := T1; clear T1; clear hB; clear tok1 _t)
     | (go_at_call 27; refine (M2 _).mono ?_; rintro e w2 ⟨rfl, hB⟩; (first | (have T1 := T0.step hB) | (have T1 := T0.drew.step hB)); clear T0; have T0 := T1; clear T1; clear hB)
     | (go_at_call 31; refine (CR _).mono ?_; rintro e w3 ⟨rfl, hB⟩; (first | (have T1 := T0.step hB) | (have T1 := T0.drew.step hB)); clear T0; have T0 := T1; clear T1; clear hB))
 all_goals go_wp2
 all_goals go_ret
 all_goals first | exact ⟨rfl, T0.below⟩ | exact ⟨rfl, T0.drew.below⟩
theorem lineOf_det (a b c d : Int) (ha : In1 a) (hb : In1 b) (hc : In1 c) (hd : In1 d) (w : World) : Calls Tryz.prog 82 #[Sg a b c d] w (VP (.agg #[.int .i64 (b - d), .int .i64 (c - a), .int .i64 (a * d - b * c)]) w) := by
 obtain ⟨p1, p2⟩ := mul_in (p := a) (q := d) (M := 1000000) (N := 1000000) ha.1 ha.2 hd.1 hd.2
 obtain ⟨q1, q2⟩ := mul_in (p := b) (q := c) (M := 1000000) (N := 1000000) hb.1 hb.2 hc.1 hc.2
 obtain ⟨a1, a2⟩ := ha; obtain ⟨b1, b2⟩ := hb; obtain ⟨c1, c2⟩ := hc; obtain ⟨d1, d2⟩ := hd
 go_enter Tryz.func82, Tryz.ntmps82
 go_wp2
 refine bodyPost_ret (v := .agg #[.int .i64 (b - d), .int .i64 (c - a), .int .i64 (a * d - b * c)]) (by simp [results, Tryz.results82, go_sem]) rfl ?_
 exact ⟨rfl, ((Below.refl _ _).alloc (Nat.le_refl _) _).alloc (by simp) _⟩
theorem cross_cells {l1 l2 l3 m1 m2 m3 : Int} {w W : World} (h : ArgsB w W [[.int .i64 l1, .int .i64 l2, .int .i64 l3], [.int .i64 m1, .int .i64 m2, .int .i64 m3]]) : (fun w' => w'.cell? ⟨w.heap.size, 0, none⟩ = some (.int .i64 l1) ∧ w'.cell? ⟨w.heap.size, 1, none⟩ = some (.int .i64 l2) ∧ w'.cell? ⟨w.heap.size, 2, none⟩ = some (.int .i64 l3) ∧ w'.cell? ⟨w.heap.size + 1, 0, none⟩ = some (.int .i64 m1) ∧ w'.cell? ⟨w.heap.size + 1, 1, none⟩ = some (.int .i64 m2) ∧ w'.cell? ⟨w.heap.size + 1, 2, none⟩ = some (.int .i64 m3)) W :=
 ⟨(h.b 0 rfl).c 0 rfl, (h.b 0 rfl).c 1 rfl, (h.b 0 rfl).c 2 rfl, (h.b 1 rfl).c 0 rfl, (h.b 1 rfl).c 1 rfl, (h.b 1 rfl).c 2 rfl⟩
theorem wrapI {z : Int} (h0 : -9223372036854775808 ≤ z) (h1 : z ≤ 9223372036854775807) : IntKind.i64.wrap z = z := by
 rw [IntKind.wrap_i64]
 omega
abbrev In3 (x : Int) : Prop := -2000000000000 ≤ x ∧ x ≤ 2000000000000
theorem crossing_det (l1 l2 l3 m1 m2 m3 : Int) (h1 : In2 l1) (h2 : In2 l2) (h3 : In3 l3) (k1 : In2 m1) (k2 : In2 m2) (k3 : In3 m3) (w : World) : Calls Tryz.prog 83 #[.agg #[.int .i64 l1, .int .i64 l2, .int .i64 l3], .agg #[.int .i64 m1, .int .i64 m2, .int .i64 m3]] w (VP (.tuple #[.int .i64 (l2 * m3 - m2 * l3), .int .i64 (l3 * m1 - m3 * l1), .int .i64 (l1 * m2 - m1 * l2)]) w) := by
 obtain ⟨p1, p2⟩ := mul_in (p := l2) (q := m3) (M := 2000000) (N := 2000000000000) h2.1 h2.2 k3.1 k3.2
 obtain ⟨q1, q2⟩ := mul_in (p := m2) (q := l3) (M := 2000000) (N := 2000000000000) k2.1 k2.2 h3.1 h3.2
 obtain ⟨r1, r2⟩ := mul_in (p := l3) (q := m1) (M := 2000000000000) (N := 2000000) h3.1 h3.2 k1.1 k1.2
 obtain ⟨s1, s2⟩ := mul_in (p := m3) (q := l1) (M := 2000000000000) (N := 2000000) k3.1 k3.2 h1.1 h1.2
 obtain ⟨t1, t2⟩ := mul_in (p := l1) (q := m2) (M := 2000000) (N := 2000000) h1.1 h1.2 k2.1 k2.2
 obtain ⟨u1, u2⟩ := mul_in (p := m1) (q := l2) (M := 2000000) (N := 2000000) k1.1 k1.2 h2.1 h2.2
 have T0 : ArgsB w ((w.alloc (.cells #[.int .i64 l1, .int .i64 l2, .int .i64 l3] 129)).alloc (.cells #[.int .i64 m1, .int .i64 m2, .int .i64 m3] 129)) [[.int .i64 l1, .int .i64 l2, .int .i64 l3], [.int .i64 m1, .int .i64 m2, .int .i64 m3]] := ar2 _ _ _ _ w
 clear h1 h2 h3 k1 k2 k3
 have e1 : IntKind.i64.wrap (l2 * m3) = l2 * m3 := wrapI (by omega) (by omega)
 have e2 : IntKind.i64.wrap (m2 * l3) = m2 * l3 := wrapI (by omega) (by omega)
 have e3 : IntKind.i64.wrap (l3 * m1) = l3 * m1 := wrapI (by omega) (by omega)
 have e4 : IntKind.i64.wrap (m3 * l1) = m3 * l1 := wrapI (by omega) (by omega)
 have e5 : IntKind.i64.wrap (l1 * m2) = l1 * m2 := wrapI (by omega) (by omega)
 have e6 : IntKind.i64.wrap (m1 * l2) = m1 * l2 := wrapI (by omega) (by omega)
 have e7 : IntKind.i64.wrap (l2 * m3 - m2 * l3) = l2 * m3 - m2 * l3 := wrapI (by omega) (by omega)
 have e8 : IntKind.i64.wrap (l3 * m1 - m3 * l1) = l3 * m1 - m3 * l1 := wrapI (by omega) (by omega)
 have e9 : IntKind.i64.wrap (l1 * m2 - m1 * l2) = l1 * m2 - m1 * l2 := wrapI (by omega) (by omega)
 go_enter Tryz.func83, Tryz.ntmps83
 go_upto_region 1 with fail
 generalize ((w.alloc (.cells #[.int .i64 l1, .int .i64 l2, .int .i64 l3] 129)).alloc (.cells #[.int .i64 m1, .int .i64 m2, .int .i64 m3] 129)) = W at *
 go_region_held3 (fun w' => w'.cell? ⟨w.heap.size, 0, none⟩ = some (.int .i64 l1) ∧ w'.cell? ⟨w.heap.size, 1, none⟩ = some (.int .i64 l2) ∧ w'.cell? ⟨w.heap.size, 2, none⟩ = some (.int .i64 l3) ∧ w'.cell? ⟨w.heap.size + 1, 0, none⟩ = some (.int .i64 m1) ∧ w'.cell? ⟨w.heap.size + 1, 1, none⟩ = some (.int .i64 m2) ∧ w'.cell? ⟨w.heap.size + 1, 2, none⟩ = some (.int .i64 m3)) ((refine cross_cells ?_ <;> repeat (first | (with_reducible exact T0) | (with_reducible refine ArgsB.drew ?_))))
   (first | fail)
 all_goals go_wp2
 all_goals refine bodyPost_ret (v := .tuple #[.int .i64 (l2 * m3 - m2 * l3), .int .i64 (l3 * m1 - m3 * l1), .int .i64 (l1 * m2 - m1 * l2)]) (by simp [results, Tryz.results83, go_sem]) rfl ?_
 all_goals first | exact ⟨rfl, T0.below⟩ | exact ⟨rfl, T0.drew.below⟩
def pt2 (t t' : Int) : Bool := (decide (0 ≤ t) || decide (0 ≤ t')) && (decide (t ≤ 0) || decide (t' ≤ 0))
structure PartZ (w wr : World) (g : Nat) (sg sl : List Value) : Prop where
 below : Below w.heap.size w wr
 seg : Blk wr w.heap.size sg
 row : Blk wr g sl
theorem PartZ.step {w wr wr' : World} {g : Nat} {sg sl : List Value} (h : PartZ w wr g sg sl) (hB : Below wr.heap.size wr wr') : PartZ w wr' g sg sl := ⟨h.below.trans (hB.mono h.below.size), h.seg.step hB, h.row.step hB⟩
theorem PartZ.alloc {w wr : World} {g : Nat} {sg sl : List Value} (h : PartZ w wr g sg sl) (o : Obj) : PartZ w (wr.alloc o) g sg sl := h.step ((Below.refl _ _).alloc (Nat.le_refl _) o)
theorem parts2_det (a b c d x y u v : Int) (ha : In1 a) (hb : In1 b) (hc : In1 c) (hd : In1 d) (hx : In1 x) (hy : In1 y) (hu : In1 u) (hv : In1 v) (g : Nat) (w : World) (hS : Blk w g [.int .i64 x, .int .i64 y, .int .i64 u, .int .i64 v]) :
   Calls Tryz.prog 85 #[Sg a b c d, .slice (some ⟨g, 0, none⟩) 2 2] w (VP (.bool (pt2 (turnZ a b c d x y) (turnZ a b c d u v))) w) := by
 have T1 := turnToZ_det a b c d x y ha hb hc hd hx hy
 have T2 := turnToZ_det a b c d u v ha hb hc hd hu hv
 generalize turnZ a b c d x y = t at *
 generalize turnZ a b c d u v = t' at *
 clear ha hb hc hd hx hy hu hv
 have I0 : PartZ w (w.alloc (.cells #[.int .i64 a, .int .i64 b, .int .i64 c, .int .i64 d] 27)) g [.int .i64 a, .int .i64 b, .int .i64 c, .int .i64 d] [.int .i64 x, .int .i64 y, .int .i64 u, .int .i64 v] :=
   ⟨(Below.refl _ _).alloc (Nat.le_refl _) _, Blk.new w [.int .i64 a, .int .i64 b, .int .i64 c, .int .i64 d] 27 rfl, hS.alloc _⟩
 clear hS
 go_enter Tryz.func85, Tryz.ntmps85
 go_wp2
 generalize (w.alloc (.cells #[.int .i64 a, .int .i64 b, .int .i64 c, .int .i64 d] 27)) = W at *
 go_loopw [5, 6, 12] (fun l r i wr => ∃ k : Nat, k ≤ 2 ∧ i = .int .i64 k ∧ l = .bool (if k = 0 then false else if k = 1 then decide (0 ≤ t) else decide (0 ≤ t) || decide (0 ≤ t')) ∧ r = .bool (if k = 0 then false else if k = 1 then decide (t ≤ 0) else decide (t ≤ 0) || decide (t' ≤ 0)) ∧ PartZ w wr g [.int .i64 a, .int .i64 b, .int .i64 c, .int .i64 d] [.int .i64 x, .int .i64 y, .int .i64 u, .int .i64 v]) (fun _ _ i _ => 2 - (intOf i).toNat)
 case atStart => exact ⟨0, by omega, rfl, rfl, rfl, I0⟩
 case round =>
   clear I0
   obtain ⟨k, hk, rfl, rfl, rfl, I0⟩ := hrel
   have ca0 := I0.seg.c 0 rfl; have ca1 := I0.seg.c 1 rfl; have ca2 := I0.seg.c 2 rfl; have ca3 := I0.seg.c 3 rfl; have calt := I0.seg.lt
   rcases (by omega : k = 0 ∨ k = 1 ∨ k = 2) with rfl | rfl | rfl
   · have e1 := I0.row.c 0 rfl; have e2 := I0.row.c 1 rfl
     have r1 : ∀ b c : Bool, (if (0 : Nat) = 0 then false else if (0 : Nat) = 1 then b else c) = false := fun _ _ => rfl
     rw [r1, r1]
     clear r1
     go_wp2_with fail
     refine (T1 _).mono ?_
     rintro e w1 ⟨rfl, hB⟩
     replace I0 := (I0.alloc _).step hB
     clear ca0 ca1 ca2 ca3 calt e1 e2 hB T1 T2
     go_wp2
     all_goals go_roundw
     all_goals first | exact ⟨1, by omega, rfl, rfl, rfl, I0⟩ | simp [intOf]
   · have e1 := I0.row.c 2 rfl; have e2 := I0.row.c 3 rfl
     have r1 : ∀ b c : Bool, (if (1 : Nat) = 0 then false else if (1 : Nat) = 1 then b else c) = b := fun _ _ => rfl
     rw [r1, r1]
     clear r1
     obtain ⟨L, hL⟩ : ∃ L, decide (0 ≤ t) = L := ⟨_, rfl⟩
     obtain ⟨R, hR⟩ : ∃ R, decide (t ≤ 0) = R := ⟨_, rfl⟩
     rw [hL, hR]
     clear hL hR
     go_wp2_with fail
     refine (T2 _).mono ?_
     rintro e w1 ⟨rfl, hB⟩
     replace I0 := (I0.alloc _).step hB
     clear ca0 ca1 ca2 ca3 calt e1 e2 hB T1 T2
     cases L <;> cases R
     all_goals go_wp2
     all_goals go_roundw
     all_goals first | exact ⟨2, by omega, rfl, rfl, rfl, I0⟩ | simp [intOf]
   · have r1 : ∀ b c : Bool, (if (2 : Nat) = 0 then false else if (2 : Nat) = 1 then b else c) = c := fun _ _ => rfl
     rw [r1, r1]
     clear r1
     have HP : Hid (pt2 t t' = ((decide (0 ≤ t) || decide (0 ≤ t')) && (decide (t ≤ 0) || decide (t' ≤ 0)))) := rfl
     generalize (decide (0 ≤ t) || decide (0 ≤ t')) = L at *
     generalize (decide (t ≤ 0) || decide (t' ≤ 0)) = R at *
     clear ca0 ca1 ca2 ca3 calt T1 T2
     cases L <;> cases R
     all_goals go_wp2
     all_goals go_ret
     all_goals exact ⟨by rw [HP.out]; rfl, I0.below⟩
end Go.Proofs.YtpnnpkchogooaaaGreat
