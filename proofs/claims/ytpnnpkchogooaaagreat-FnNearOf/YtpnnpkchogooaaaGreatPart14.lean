/- Part 14 of the walks that the proof leans on. -/
import Derived.Test.YtpnnpkchogooaaaGreatPart13
import Derived.Test.YtpnnpkchogooaaaGreatPart9
import Derived.Test.YtpnnpkchogooaaaGreatPart11
import Derived.Test.YtpnnpkchogooaaaGreatPart4
import Derived.Test.YtpnnpkchogooaaaGreatPart10
/- A segment and a spot drawn from a code. -/
namespace Go.Proofs.YtpnnpkchogooaaaGreat
open Go.RowKit
/-- A segment and a spot, whatever their numbers. -/
def SgSpP (w : World) (e : Ending) (w' : World) : Prop := ∃ a b c d x y : Int, e = .returned (.tuple #[.agg #[.int .i64 a, .int .i64 b, .int .i64 c, .int .i64 d], .agg #[.int .i64 x, .int .i64 y]]) ∧ I64 a ∧ I64 b ∧ I64 c ∧ I64 d ∧ I64 x ∧ I64 y ∧ Below w.heap.size w w'
theorem i64_zero : I64 0 := by constructor <;> decide
set_option maxRecDepth 100000 in
set_option maxHeartbeats 8000000 in
theorem drawNear2_any (ao : Option Addr) (n cap : Nat) (cs : List Int) (w : World) (h : Code w ao n cs) : Calls Tryz.prog 6 #[.slice ao n cap] w (SgSpP w) := by
  have B0 := (Blk.new w [.int .i64 0, .int .i64 0, .int .i64 0, .int .i64 0] 27 rfl).alloc (.cells #[.int .i64 0, .int .i64 0] 25)
  have B1 := Blk.new (w.alloc (.cells #[.int .i64 0, .int .i64 0, .int .i64 0, .int .i64 0] 27)) [.int .i64 0, .int .i64 0] 25 (g := w.heap.size + 1) (by simp)
  rw [show ([.int .i64 0, .int .i64 0, .int .i64 0, .int .i64 0] : List Value).toArray = #[.int .i64 0, .int .i64 0, .int .i64 0, .int .i64 0] from rfl] at B0 B1
  rw [show ([.int .i64 0, .int .i64 0] : List Value).toArray = #[.int .i64 0, .int .i64 0] from rfl] at B1
  have HB : Below w.heap.size w ((w.alloc (.cells #[.int .i64 0, .int .i64 0, .int .i64 0, .int .i64 0] 27)).alloc (.cells #[.int .i64 0, .int .i64 0] 25)) := ((Below.refl _ _).alloc (Nat.le_refl _) _).alloc (by simp) _
  have hcd : ∀ i, i < cs.length → ∃ b off, ao = some ⟨b, off, none⟩ ∧ b < w.heap.size := fun i hi => by
    obtain ⟨b, off, e, hb, _⟩ := h.bytes i hi
    exact ⟨b, off, e, hb⟩
  replace h := h.below HB
  go_enter Tryz.func6, Tryz.ntmps6
  go_wp2_with fail
  refine (open_any ao n cap cs _ h).mono ?_
  rintro e w1 ⟨g, rfl, hG, R, hB⟩
  simp at hG
  have h0 : w.heap.size ≠ g := by omega
  have h1 : w.heap.size + 1 ≠ g := by omega
  replace B0 := B0.step hB
  replace B1 := B1.step hB
  replace HB : Below w.heap.size w w1 := HB.trans (hB.mono HB.size)
  clear hB h
  go_wp2_with fail
  refine (seg_any g ao n cap cs _ R).mono ?_
  rintro e w2 ⟨_, rfl, ⟨a, b, c, d, rfl, ia, ib, ic, id⟩, R1, K1⟩
  replace B0 := B0.kept K1 h0
  replace B1 := B1.kept K1 h1
  replace HB := HB.trans (K1.below (by omega) HB.size)
  clear R K1
  have bl := B1.lt
  have gl := R1.lt
  have X5 := Blk.new w2 [.int .i64 a, .int .i64 b, .int .i64 c, .int .i64 d] 27 rfl
  rw [show ([.int .i64 a, .int .i64 b, .int .i64 c, .int .i64 d] : List Value).toArray = #[.int .i64 a, .int .i64 b, .int .i64 c, .int .i64 d] from rfl] at X5
  have R := R1.alloc (.cells #[.int .i64 a, .int .i64 b, .int .i64 c, .int .i64 d] 27)
  replace B0 := B0.alloc (.cells #[.int .i64 a, .int .i64 b, .int .i64 c, .int .i64 d] 27)
  replace B1 := B1.alloc (.cells #[.int .i64 a, .int .i64 b, .int .i64 c, .int .i64 d] 27)
  replace HB := HB.alloc HB.size (.cells #[.int .i64 a, .int .i64 b, .int .i64 c, .int .i64 d] 27)
  have h5 : w2.heap.size ≠ g := by omega
  clear R1
  go_wp2_with fail
  refine (once_any 10 (by decide) (by decide) g ao n cap cs _ R).mono ?_
  rintro e w3 ⟨_, rfl, ⟨t, rfl⟩, R1, K1⟩
  replace B0 := B0.kept K1 h0
  replace B1 := B1.kept K1 h1
  replace X5 := X5.kept K1 h5
  replace HB := HB.trans (K1.below (by omega) HB.size)
  clear R K1
  have R := R1
  clear R1
  cases t
  · go_upto_region 5 with fail
    refine nfB (R0 := w.heap.size) (R1 := w.heap.size + 1) (A5 := w2.heap.size) (G := g) (ao := ao) (n := n) (cap := cap) (cs := cs) (a := a) (b := b) (c := c) (d := d) (by omega) (by omega) (by omega) (by omega) ia ib ic id hcd (fun i hi => by obtain ⟨b, off, e, hb⟩ := hcd i hi; exact ⟨b, off, e, by omega⟩) rfl rfl rfl rfl rfl ⟨X5.drew, R.drew, ⟨0, 0, 0, 0, i64_zero, i64_zero, i64_zero, i64_zero, B0.drew⟩, 0, 0, i64_zero, i64_zero, B1.drew⟩ ?_
    rintro ⟨tm, df⟩ Wz hz hdf hoff hBz ⟨_, _, ⟨e0, e1, e2, e3, j0, j1, j2, j3, F0⟩, p, q, hp, hq, F1⟩
    simp only at hz hdf hoff
    subst hdf
    have htm := tmps_fold [18, 19, 20] tm _ hz hoff
    simp only [List.foldl, List.setIfInBounds_toArray, List.set_cons_zero, List.set_cons_succ] at htm
    clear hz hoff
    generalize tm.getD 18 undef = sl0, tm.getD 19 undef = sl1, tm.getD 20 undef = sl2 at htm
    subst htm
    replace HB := HB.trans hBz
    obtain ⟨o0, o1, o2, o3⟩ := F0.cs4
    obtain ⟨o4, o5⟩ := F1.cs2
    clear R B0 B1 X5 F0 F1 hBz
    go_wp2
    refine bodyPost_ret (v := .tuple #[.agg #[.int .i64 e0, .int .i64 e1, .int .i64 e2, .int .i64 e3], .agg #[.int .i64 p, .int .i64 q]]) (by simp [results, Tryz.results6, go_sem, o0, o1, o2, o3, o4, o5]) rfl ?_
    exact ⟨e0, e1, e2, e3, p, q, rfl, j0, j1, j2, j3, hp, hq, HB⟩
  · go_upto_region 4 with fail
    refine nfA (R0 := w.heap.size) (R1 := w.heap.size + 1) (A5 := w2.heap.size) (G := g) (ao := ao) (n := n) (cap := cap) (cs := cs) (a := a) (b := b) (c := c) (d := d) (by omega) (by omega) (by omega) (by omega) ia ib ic id hcd (fun i hi => by obtain ⟨b, off, e, hb⟩ := hcd i hi; exact ⟨b, off, e, by omega⟩) rfl rfl rfl rfl rfl ⟨X5.drew, R.drew, ⟨0, 0, 0, 0, i64_zero, i64_zero, i64_zero, i64_zero, B0.drew⟩, 0, 0, i64_zero, i64_zero, B1.drew⟩ ?_
    rintro ⟨tm, df⟩ Wz hz hdf hoff hBz ⟨_, _, ⟨e0, e1, e2, e3, j0, j1, j2, j3, F0⟩, p, q, hp, hq, F1⟩
    simp only at hz hdf hoff
    subst hdf
    have htm := tmps_fold [12, 13, 14, 15, 16, 17] tm _ hz hoff
    simp only [List.foldl, List.setIfInBounds_toArray, List.set_cons_zero, List.set_cons_succ] at htm
    clear hz hoff
    generalize tm.getD 12 undef = sl0, tm.getD 13 undef = sl1, tm.getD 14 undef = sl2, tm.getD 15 undef = sl3, tm.getD 16 undef = sl4, tm.getD 17 undef = sl5 at htm
    subst htm
    replace HB := HB.trans hBz
    obtain ⟨o0, o1, o2, o3⟩ := F0.cs4
    obtain ⟨o4, o5⟩ := F1.cs2
    clear R B0 B1 X5 F0 F1 hBz
    go_wp2
    refine bodyPost_ret (v := .tuple #[.agg #[.int .i64 e0, .int .i64 e1, .int .i64 e2, .int .i64 e3], .agg #[.int .i64 p, .int .i64 q]]) (by simp [results, Tryz.results6, go_sem, o0, o1, o2, o3, o4, o5]) rfl ?_
    exact ⟨e0, e1, e2, e3, p, q, rfl, j0, j1, j2, j3, hp, hq, HB⟩
end Go.Proofs.YtpnnpkchogooaaaGreat

/- The determinant of three points and its sign, the turn: the program's walks. -/
namespace Go.Proofs.YtpnnpkchogooaaaGreat
open Go.RowKit
theorem t3_cells {x y z u v t a b c : Int} {w W : World} (T0 : ArgsB w W [[.int .u64 (ww3 x), .int .u64 (ww2 x), .int .u64 (ww1 x), .int .u64 (ww0 x), .int .u64 (ww3 y), .int .u64 (ww2 y), .int .u64 (ww1 y), .int .u64 (ww0 y), .int .u64 (ww3 z), .int .u64 (ww2 z), .int .u64 (ww1 z), .int .u64 (ww0 z)], [.int .u64 (ww3 u), .int .u64 (ww2 u), .int .u64 (ww1 u), .int .u64 (ww0 u), .int .u64 (ww3 v), .int .u64 (ww2 v), .int .u64 (ww1 v), .int .u64 (ww0 v), .int .u64 (ww3 t), .int .u64 (ww2 t), .int .u64 (ww1 t), .int .u64 (ww0 t)], [.int .u64 (ww3 a), .int .u64 (ww2 a), .int .u64 (ww1 a), .int .u64 (ww0 a), .int .u64 (ww3 b), .int .u64 (ww2 b), .int .u64 (ww1 b), .int .u64 (ww0 b), .int .u64 (ww3 c), .int .u64 (ww2 c), .int .u64 (ww1 c), .int .u64 (ww0 c)], [.int .u64 0, .int .u64 0, .int .u64 0, .int .u64 0, .int .u64 0, .int .u64 0, .int .u64 0, .int .u64 0]]) : (fun w' => w'.cell? ⟨w.heap.size, 0, none⟩ = some (.int .u64 (ww3 x)) ∧ w'.cell? ⟨w.heap.size, 1, none⟩ = some (.int .u64 (ww2 x)) ∧ w'.cell? ⟨w.heap.size, 2, none⟩ = some (.int .u64 (ww1 x)) ∧ w'.cell? ⟨w.heap.size, 3, none⟩ = some (.int .u64 (ww0 x)) ∧ w'.cell? ⟨w.heap.size, 4, none⟩ = some (.int .u64 (ww3 y)) ∧ w'.cell? ⟨w.heap.size, 5, none⟩ = some (.int .u64 (ww2 y)) ∧ w'.cell? ⟨w.heap.size, 6, none⟩ = some (.int .u64 (ww1 y)) ∧ w'.cell? ⟨w.heap.size, 7, none⟩ = some (.int .u64 (ww0 y)) ∧ w'.cell? ⟨w.heap.size, 8, none⟩ = some (.int .u64 (ww3 z)) ∧ w'.cell? ⟨w.heap.size, 9, none⟩ = some (.int .u64 (ww2 z)) ∧ w'.cell? ⟨w.heap.size, 10, none⟩ = some (.int .u64 (ww1 z)) ∧ w'.cell? ⟨w.heap.size, 11, none⟩ = some (.int .u64 (ww0 z)) ∧ w'.cell? ⟨w.heap.size + 1, 0, none⟩ = some (.int .u64 (ww3 u)) ∧ w'.cell? ⟨w.heap.size + 1, 1, none⟩ = some (.int .u64 (ww2 u)) ∧ w'.cell? ⟨w.heap.size + 1, 2, none⟩ = some (.int .u64 (ww1 u)) ∧ w'.cell? ⟨w.heap.size + 1, 3, none⟩ = some (.int .u64 (ww0 u)) ∧ w'.cell? ⟨w.heap.size + 1, 4, none⟩ = some (.int .u64 (ww3 v)) ∧ w'.cell? ⟨w.heap.size + 1, 5, none⟩ = some (.int .u64 (ww2 v)) ∧ w'.cell? ⟨w.heap.size + 1, 6, none⟩ = some (.int .u64 (ww1 v)) ∧ w'.cell? ⟨w.heap.size + 1, 7, none⟩ = some (.int .u64 (ww0 v)) ∧ w'.cell? ⟨w.heap.size + 1, 8, none⟩ = some (.int .u64 (ww3 t)) ∧ w'.cell? ⟨w.heap.size + 1, 9, none⟩ = some (.int .u64 (ww2 t)) ∧ w'.cell? ⟨w.heap.size + 1, 10, none⟩ = some (.int .u64 (ww1 t)) ∧ w'.cell? ⟨w.heap.size + 1, 11, none⟩ = some (.int .u64 (ww0 t)) ∧ w'.cell? ⟨w.heap.size + 2, 0, none⟩ = some (.int .u64 (ww3 a)) ∧ w'.cell? ⟨w.heap.size + 2, 1, none⟩ = some (.int .u64 (ww2 a)) ∧ w'.cell? ⟨w.heap.size + 2, 2, none⟩ = some (.int .u64 (ww1 a)) ∧ w'.cell? ⟨w.heap.size + 2, 3, none⟩ = some (.int .u64 (ww0 a)) ∧ w'.cell? ⟨w.heap.size + 2, 4, none⟩ = some (.int .u64 (ww3 b)) ∧ w'.cell? ⟨w.heap.size + 2, 5, none⟩ = some (.int .u64 (ww2 b)) ∧ w'.cell? ⟨w.heap.size + 2, 6, none⟩ = some (.int .u64 (ww1 b)) ∧ w'.cell? ⟨w.heap.size + 2, 7, none⟩ = some (.int .u64 (ww0 b)) ∧ w'.cell? ⟨w.heap.size + 2, 8, none⟩ = some (.int .u64 (ww3 c)) ∧ w'.cell? ⟨w.heap.size + 2, 9, none⟩ = some (.int .u64 (ww2 c)) ∧ w'.cell? ⟨w.heap.size + 2, 10, none⟩ = some (.int .u64 (ww1 c)) ∧ w'.cell? ⟨w.heap.size + 2, 11, none⟩ = some (.int .u64 (ww0 c))) W := ⟨(T0.b 0 rfl).c 0 rfl, (T0.b 0 rfl).c 1 rfl, (T0.b 0 rfl).c 2 rfl, (T0.b 0 rfl).c 3 rfl, (T0.b 0 rfl).c 4 rfl, (T0.b 0 rfl).c 5 rfl, (T0.b 0 rfl).c 6 rfl, (T0.b 0 rfl).c 7 rfl, (T0.b 0 rfl).c 8 rfl, (T0.b 0 rfl).c 9 rfl, (T0.b 0 rfl).c 10 rfl, (T0.b 0 rfl).c 11 rfl, (T0.b 1 rfl).c 0 rfl, (T0.b 1 rfl).c 1 rfl, (T0.b 1 rfl).c 2 rfl, (T0.b 1 rfl).c 3 rfl, (T0.b 1 rfl).c 4 rfl, (T0.b 1 rfl).c 5 rfl, (T0.b 1 rfl).c 6 rfl, (T0.b 1 rfl).c 7 rfl, (T0.b 1 rfl).c 8 rfl, (T0.b 1 rfl).c 9 rfl, (T0.b 1 rfl).c 10 rfl, (T0.b 1 rfl).c 11 rfl, (T0.b 2 rfl).c 0 rfl, (T0.b 2 rfl).c 1 rfl, (T0.b 2 rfl).c 2 rfl, (T0.b 2 rfl).c 3 rfl, (T0.b 2 rfl).c 4 rfl, (T0.b 2 rfl).c 5 rfl, (T0.b 2 rfl).c 6 rfl, (T0.b 2 rfl).c 7 rfl, (T0.b 2 rfl).c 8 rfl, (T0.b 2 rfl).c 9 rfl, (T0.b 2 rfl).c 10 rfl, (T0.b 2 rfl).c 11 rfl⟩
theorem t3_cells3 {x y z u v t a b c : Int} {w W : World} (T0 : ArgsB w W [[.int .u64 (ww3 x), .int .u64 (ww2 x), .int .u64 (ww1 x), .int .u64 (ww0 x), .int .u64 (ww3 y), .int .u64 (ww2 y), .int .u64 (ww1 y), .int .u64 (ww0 y), .int .u64 (ww3 z), .int .u64 (ww2 z), .int .u64 (ww1 z), .int .u64 (ww0 z)], [.int .u64 (ww3 u), .int .u64 (ww2 u), .int .u64 (ww1 u), .int .u64 (ww0 u), .int .u64 (ww3 v), .int .u64 (ww2 v), .int .u64 (ww1 v), .int .u64 (ww0 v), .int .u64 (ww3 t), .int .u64 (ww2 t), .int .u64 (ww1 t), .int .u64 (ww0 t)], [.int .u64 (ww3 a), .int .u64 (ww2 a), .int .u64 (ww1 a), .int .u64 (ww0 a), .int .u64 (ww3 b), .int .u64 (ww2 b), .int .u64 (ww1 b), .int .u64 (ww0 b), .int .u64 (ww3 c), .int .u64 (ww2 c), .int .u64 (ww1 c), .int .u64 (ww0 c)]]) : (fun w' => w'.cell? ⟨w.heap.size, 0, none⟩ = some (.int .u64 (ww3 x)) ∧ w'.cell? ⟨w.heap.size, 1, none⟩ = some (.int .u64 (ww2 x)) ∧ w'.cell? ⟨w.heap.size, 2, none⟩ = some (.int .u64 (ww1 x)) ∧ w'.cell? ⟨w.heap.size, 3, none⟩ = some (.int .u64 (ww0 x)) ∧ w'.cell? ⟨w.heap.size, 4, none⟩ = some (.int .u64 (ww3 y)) ∧ w'.cell? ⟨w.heap.size, 5, none⟩ = some (.int .u64 (ww2 y)) ∧ w'.cell? ⟨w.heap.size, 6, none⟩ = some (.int .u64 (ww1 y)) ∧ w'.cell? ⟨w.heap.size, 7, none⟩ = some (.int .u64 (ww0 y)) ∧ w'.cell? ⟨w.heap.size, 8, none⟩ = some (.int .u64 (ww3 z)) ∧ w'.cell? ⟨w.heap.size, 9, none⟩ = some (.int .u64 (ww2 z)) ∧ w'.cell? ⟨w.heap.size, 10, none⟩ = some (.int .u64 (ww1 z)) ∧ w'.cell? ⟨w.heap.size, 11, none⟩ = some (.int .u64 (ww0 z)) ∧ w'.cell? ⟨w.heap.size + 1, 0, none⟩ = some (.int .u64 (ww3 u)) ∧ w'.cell? ⟨w.heap.size + 1, 1, none⟩ = some (.int .u64 (ww2 u)) ∧ w'.cell? ⟨w.heap.size + 1, 2, none⟩ = some (.int .u64 (ww1 u)) ∧ w'.cell? ⟨w.heap.size + 1, 3, none⟩ = some (.int .u64 (ww0 u)) ∧ w'.cell? ⟨w.heap.size + 1, 4, none⟩ = some (.int .u64 (ww3 v)) ∧ w'.cell? ⟨w.heap.size + 1, 5, none⟩ = some (.int .u64 (ww2 v)) ∧ w'.cell? ⟨w.heap.size + 1, 6, none⟩ = some (.int .u64 (ww1 v)) ∧ w'.cell? ⟨w.heap.size + 1, 7, none⟩ = some (.int .u64 (ww0 v)) ∧ w'.cell? ⟨w.heap.size + 1, 8, none⟩ = some (.int .u64 (ww3 t)) ∧ w'.cell? ⟨w.heap.size + 1, 9, none⟩ = some (.int .u64 (ww2 t)) ∧ w'.cell? ⟨w.heap.size + 1, 10, none⟩ = some (.int .u64 (ww1 t)) ∧ w'.cell? ⟨w.heap.size + 1, 11, none⟩ = some (.int .u64 (ww0 t)) ∧ w'.cell? ⟨w.heap.size + 2, 0, none⟩ = some (.int .u64 (ww3 a)) ∧ w'.cell? ⟨w.heap.size + 2, 1, none⟩ = some (.int .u64 (ww2 a)) ∧ w'.cell? ⟨w.heap.size + 2, 2, none⟩ = some (.int .u64 (ww1 a)) ∧ w'.cell? ⟨w.heap.size + 2, 3, none⟩ = some (.int .u64 (ww0 a)) ∧ w'.cell? ⟨w.heap.size + 2, 4, none⟩ = some (.int .u64 (ww3 b)) ∧ w'.cell? ⟨w.heap.size + 2, 5, none⟩ = some (.int .u64 (ww2 b)) ∧ w'.cell? ⟨w.heap.size + 2, 6, none⟩ = some (.int .u64 (ww1 b)) ∧ w'.cell? ⟨w.heap.size + 2, 7, none⟩ = some (.int .u64 (ww0 b)) ∧ w'.cell? ⟨w.heap.size + 2, 8, none⟩ = some (.int .u64 (ww3 c)) ∧ w'.cell? ⟨w.heap.size + 2, 9, none⟩ = some (.int .u64 (ww2 c)) ∧ w'.cell? ⟨w.heap.size + 2, 10, none⟩ = some (.int .u64 (ww1 c)) ∧ w'.cell? ⟨w.heap.size + 2, 11, none⟩ = some (.int .u64 (ww0 c))) W := ⟨(T0.b 0 rfl).c 0 rfl, (T0.b 0 rfl).c 1 rfl, (T0.b 0 rfl).c 2 rfl, (T0.b 0 rfl).c 3 rfl, (T0.b 0 rfl).c 4 rfl, (T0.b 0 rfl).c 5 rfl, (T0.b 0 rfl).c 6 rfl, (T0.b 0 rfl).c 7 rfl, (T0.b 0 rfl).c 8 rfl, (T0.b 0 rfl).c 9 rfl, (T0.b 0 rfl).c 10 rfl, (T0.b 0 rfl).c 11 rfl, (T0.b 1 rfl).c 0 rfl, (T0.b 1 rfl).c 1 rfl, (T0.b 1 rfl).c 2 rfl, (T0.b 1 rfl).c 3 rfl, (T0.b 1 rfl).c 4 rfl, (T0.b 1 rfl).c 5 rfl, (T0.b 1 rfl).c 6 rfl, (T0.b 1 rfl).c 7 rfl, (T0.b 1 rfl).c 8 rfl, (T0.b 1 rfl).c 9 rfl, (T0.b 1 rfl).c 10 rfl, (T0.b 1 rfl).c 11 rfl, (T0.b 2 rfl).c 0 rfl, (T0.b 2 rfl).c 1 rfl, (T0.b 2 rfl).c 2 rfl, (T0.b 2 rfl).c 3 rfl, (T0.b 2 rfl).c 4 rfl, (T0.b 2 rfl).c 5 rfl, (T0.b 2 rfl).c 6 rfl, (T0.b 2 rfl).c 7 rfl, (T0.b 2 rfl).c 8 rfl, (T0.b 2 rfl).c 9 rfl, (T0.b 2 rfl).c 10 rfl, (T0.b 2 rfl).c 11 rfl⟩
theorem times_sm {r m : Int} (hr : small r = true) (hm : m.natAbs ≤ 2923003274661805836407369665432566039311865085952) (w : World) : Calls Tryz.prog 33 #[W4 r, W4 m] w (VP (LV (r * m)) w) := times_det r m (told_small hr) (told_of (by omega)) w
theorem triple_abs {r m : Int} (hr : small r = true) (hm : m.natAbs ≤ 2923003274661805836407369665432566039311865085952) : (r * m).natAbs ≤ 3533694129556768659166595001485837031654967793751237916243212402585239552 := by
  have := abs_mul (show r.natAbs ≤ 1208925819614629174706176 by have := sm_lt hr; omega) hm
  omega
/-- The turn of three points, as the program reckons it. -/
def turnJ (x y z u v t a b c : Int) : Int := cmpI (a * (y * t - z * v) - b * (x * t - z * u) + c * (x * v - y * u)) 0
theorem cutK_new {w X : World} {vss : List (List Value)} {rs : List Value} {T : TypeId} {B : Nat} (h : ArgsB w X vss) (hl : B ≤ X.heap.size) : ∃ g, (Value.pointer (some ⟨X.heap.size, 0, none⟩)) = .pointer (some ⟨g, 0, none⟩) ∧ B ≤ g ∧ ArgsB w (X.alloc (.cells rs.toArray T)) vss ∧ Blk (X.alloc (.cells rs.toArray T)) g rs :=
  ⟨_, rfl, hl, h.alloc _, Blk.new X rs T rfl⟩
theorem cutK_set {w X : World} {vss : List (List Value)} {v0 v1 v2 v3 v4 v5 v6 v7 z0 z1 z2 z3 z4 z5 z6 z7 : Value} {g B : Nat} (h : ArgsB w X vss) (G : Blk X g [z0, z1, z2, z3, z4, z5, z6, z7]) (hl : B ≤ g) (hg : w.heap.size + vss.length ≤ g) : ∃ g', (Value.pointer (some ⟨g, 0, none⟩)) = .pointer (some ⟨g', 0, none⟩) ∧ B ≤ g' ∧ ArgsB w ((((((((X.setCell ⟨g, 0, none⟩ v0).setCell ⟨g, 1, none⟩ v1).setCell ⟨g, 2, none⟩ v2).setCell ⟨g, 3, none⟩ v3).setCell ⟨g, 4, none⟩ v4).setCell ⟨g, 5, none⟩ v5).setCell ⟨g, 6, none⟩ v6).setCell ⟨g, 7, none⟩ v7) vss ∧ Blk ((((((((X.setCell ⟨g, 0, none⟩ v0).setCell ⟨g, 1, none⟩ v1).setCell ⟨g, 2, none⟩ v2).setCell ⟨g, 3, none⟩ v3).setCell ⟨g, 4, none⟩ v4).setCell ⟨g, 5, none⟩ v5).setCell ⟨g, 6, none⟩ v6).setCell ⟨g, 7, none⟩ v7) g' [v0, v1, v2, v3, v4, v5, v6, v7] :=
  ⟨g, rfl, hl, h.set8g hg _ _ _ _ _ _ _ _, (((((((G.setI 0 (by simp) v0).setI 1 (by simp) v1).setI 2 (by simp) v2).setI 3 (by simp) v3).setI 4 (by simp) v4).setI 5 (by simp) v5).setI 6 (by simp) v6).setI 7 (by simp) v7⟩
theorem tl_cells8 {X Y Z : Int} {W : World} {gX gY gZ g : Nat} {v0 v1 v2 v3 v4 v5 v6 v7 : Value} (BX : Blk W gX [.int .u64 (lw0 X), .int .u64 (lw1 X), .int .u64 (lw2 X), .int .u64 (lw3 X), .int .u64 (lw4 X), .int .u64 (lw5 X), .int .u64 (lw6 X), .int .u64 (lw7 X)]) (BY : Blk W gY [.int .u64 (lw0 Y), .int .u64 (lw1 Y), .int .u64 (lw2 Y), .int .u64 (lw3 Y), .int .u64 (lw4 Y), .int .u64 (lw5 Y), .int .u64 (lw6 Y), .int .u64 (lw7 Y)]) (BZ : Blk W gZ [.int .u64 (lw0 Z), .int .u64 (lw1 Z), .int .u64 (lw2 Z), .int .u64 (lw3 Z), .int .u64 (lw4 Z), .int .u64 (lw5 Z), .int .u64 (lw6 Z), .int .u64 (lw7 Z)]) (hX : gX ≠ g) (hY : gY ≠ g) (hZ : gZ ≠ g) : (fun w' => w'.cell? ⟨gX, 0, none⟩ = some (.int .u64 (lw0 X)) ∧ w'.cell? ⟨gX, 1, none⟩ = some (.int .u64 (lw1 X)) ∧ w'.cell? ⟨gX, 2, none⟩ = some (.int .u64 (lw2 X)) ∧ w'.cell? ⟨gX, 3, none⟩ = some (.int .u64 (lw3 X)) ∧ w'.cell? ⟨gX, 4, none⟩ = some (.int .u64 (lw4 X)) ∧ w'.cell? ⟨gX, 5, none⟩ = some (.int .u64 (lw5 X)) ∧ w'.cell? ⟨gX, 6, none⟩ = some (.int .u64 (lw6 X)) ∧ w'.cell? ⟨gX, 7, none⟩ = some (.int .u64 (lw7 X)) ∧ w'.cell? ⟨gY, 0, none⟩ = some (.int .u64 (lw0 Y)) ∧ w'.cell? ⟨gY, 1, none⟩ = some (.int .u64 (lw1 Y)) ∧ w'.cell? ⟨gY, 2, none⟩ = some (.int .u64 (lw2 Y)) ∧ w'.cell? ⟨gY, 3, none⟩ = some (.int .u64 (lw3 Y)) ∧ w'.cell? ⟨gY, 4, none⟩ = some (.int .u64 (lw4 Y)) ∧ w'.cell? ⟨gY, 5, none⟩ = some (.int .u64 (lw5 Y)) ∧ w'.cell? ⟨gY, 6, none⟩ = some (.int .u64 (lw6 Y)) ∧ w'.cell? ⟨gY, 7, none⟩ = some (.int .u64 (lw7 Y)) ∧ w'.cell? ⟨gZ, 0, none⟩ = some (.int .u64 (lw0 Z)) ∧ w'.cell? ⟨gZ, 1, none⟩ = some (.int .u64 (lw1 Z)) ∧ w'.cell? ⟨gZ, 2, none⟩ = some (.int .u64 (lw2 Z)) ∧ w'.cell? ⟨gZ, 3, none⟩ = some (.int .u64 (lw3 Z)) ∧ w'.cell? ⟨gZ, 4, none⟩ = some (.int .u64 (lw4 Z)) ∧ w'.cell? ⟨gZ, 5, none⟩ = some (.int .u64 (lw5 Z)) ∧ w'.cell? ⟨gZ, 6, none⟩ = some (.int .u64 (lw6 Z)) ∧ w'.cell? ⟨gZ, 7, none⟩ = some (.int .u64 (lw7 Z))) ((((((((W.setCell ⟨g, 0, none⟩ v0).setCell ⟨g, 1, none⟩ v1).setCell ⟨g, 2, none⟩ v2).setCell ⟨g, 3, none⟩ v3).setCell ⟨g, 4, none⟩ v4).setCell ⟨g, 5, none⟩ v5).setCell ⟨g, 6, none⟩ v6).setCell ⟨g, 7, none⟩ v7) := ⟨(BX.set8 hX).c 0 rfl, (BX.set8 hX).c 1 rfl, (BX.set8 hX).c 2 rfl, (BX.set8 hX).c 3 rfl, (BX.set8 hX).c 4 rfl, (BX.set8 hX).c 5 rfl, (BX.set8 hX).c 6 rfl, (BX.set8 hX).c 7 rfl, (BY.set8 hY).c 0 rfl, (BY.set8 hY).c 1 rfl, (BY.set8 hY).c 2 rfl, (BY.set8 hY).c 3 rfl, (BY.set8 hY).c 4 rfl, (BY.set8 hY).c 5 rfl, (BY.set8 hY).c 6 rfl, (BY.set8 hY).c 7 rfl, (BZ.set8 hZ).c 0 rfl, (BZ.set8 hZ).c 1 rfl, (BZ.set8 hZ).c 2 rfl, (BZ.set8 hZ).c 3 rfl, (BZ.set8 hZ).c 4 rfl, (BZ.set8 hZ).c 5 rfl, (BZ.set8 hZ).c 6 rfl, (BZ.set8 hZ).c 7 rfl⟩
theorem tl_cells {X Y Z : Int} {W : World} {gX gY gZ : Nat} (BX : Blk W gX [.int .u64 (lw0 X), .int .u64 (lw1 X), .int .u64 (lw2 X), .int .u64 (lw3 X), .int .u64 (lw4 X), .int .u64 (lw5 X), .int .u64 (lw6 X), .int .u64 (lw7 X)]) (BY : Blk W gY [.int .u64 (lw0 Y), .int .u64 (lw1 Y), .int .u64 (lw2 Y), .int .u64 (lw3 Y), .int .u64 (lw4 Y), .int .u64 (lw5 Y), .int .u64 (lw6 Y), .int .u64 (lw7 Y)]) (BZ : Blk W gZ [.int .u64 (lw0 Z), .int .u64 (lw1 Z), .int .u64 (lw2 Z), .int .u64 (lw3 Z), .int .u64 (lw4 Z), .int .u64 (lw5 Z), .int .u64 (lw6 Z), .int .u64 (lw7 Z)]) : (fun w' => w'.cell? ⟨gX, 0, none⟩ = some (.int .u64 (lw0 X)) ∧ w'.cell? ⟨gX, 1, none⟩ = some (.int .u64 (lw1 X)) ∧ w'.cell? ⟨gX, 2, none⟩ = some (.int .u64 (lw2 X)) ∧ w'.cell? ⟨gX, 3, none⟩ = some (.int .u64 (lw3 X)) ∧ w'.cell? ⟨gX, 4, none⟩ = some (.int .u64 (lw4 X)) ∧ w'.cell? ⟨gX, 5, none⟩ = some (.int .u64 (lw5 X)) ∧ w'.cell? ⟨gX, 6, none⟩ = some (.int .u64 (lw6 X)) ∧ w'.cell? ⟨gX, 7, none⟩ = some (.int .u64 (lw7 X)) ∧ w'.cell? ⟨gY, 0, none⟩ = some (.int .u64 (lw0 Y)) ∧ w'.cell? ⟨gY, 1, none⟩ = some (.int .u64 (lw1 Y)) ∧ w'.cell? ⟨gY, 2, none⟩ = some (.int .u64 (lw2 Y)) ∧ w'.cell? ⟨gY, 3, none⟩ = some (.int .u64 (lw3 Y)) ∧ w'.cell? ⟨gY, 4, none⟩ = some (.int .u64 (lw4 Y)) ∧ w'.cell? ⟨gY, 5, none⟩ = some (.int .u64 (lw5 Y)) ∧ w'.cell? ⟨gY, 6, none⟩ = some (.int .u64 (lw6 Y)) ∧ w'.cell? ⟨gY, 7, none⟩ = some (.int .u64 (lw7 Y)) ∧ w'.cell? ⟨gZ, 0, none⟩ = some (.int .u64 (lw0 Z)) ∧ w'.cell? ⟨gZ, 1, none⟩ = some (.int .u64 (lw1 Z)) ∧ w'.cell? ⟨gZ, 2, none⟩ = some (.int .u64 (lw2 Z)) ∧ w'.cell? ⟨gZ, 3, none⟩ = some (.int .u64 (lw3 Z)) ∧ w'.cell? ⟨gZ, 4, none⟩ = some (.int .u64 (lw4 Z)) ∧ w'.cell? ⟨gZ, 5, none⟩ = some (.int .u64 (lw5 Z)) ∧ w'.cell? ⟨gZ, 6, none⟩ = some (.int .u64 (lw6 Z)) ∧ w'.cell? ⟨gZ, 7, none⟩ = some (.int .u64 (lw7 Z))) W := ⟨BX.c 0 rfl, BX.c 1 rfl, BX.c 2 rfl, BX.c 3 rfl, BX.c 4 rfl, BX.c 5 rfl, BX.c 6 rfl, BX.c 7 rfl, BY.c 0 rfl, BY.c 1 rfl, BY.c 2 rfl, BY.c 3 rfl, BY.c 4 rfl, BY.c 5 rfl, BY.c 6 rfl, BY.c 7 rfl, BZ.c 0 rfl, BZ.c 1 rfl, BZ.c 2 rfl, BZ.c 3 rfl, BZ.c 4 rfl, BZ.c 5 rfl, BZ.c 6 rfl, BZ.c 7 rfl⟩
/-- The determinant of three points, as the program reckons it. -/
def detJ (x y z u v t a b c : Int) : Int := a * (y * t - z * v) - b * (x * t - z * u) + c * (x * v - y * u)
set_option maxRecDepth 100000 in
set_option maxHeartbeats 8000000 in
theorem corners_det (x y z u v t a b c : Int) (sx : small x = true) (sy : small y = true) (sz : small z = true) (su : small u = true) (sv : small v = true) (st : small t = true) (sa : small a = true) (sb : small b = true) (sc : small c = true) (w : World) : Calls Tryz.prog 117 #[PV x y z, PV u v t, PV a b c] w (VP (LV (detJ x y z u v t a b c)) w) := by
  have T0 : ArgsB w ((((w.alloc (.cells #[.int .u64 (ww3 x), .int .u64 (ww2 x), .int .u64 (ww1 x), .int .u64 (ww0 x), .int .u64 (ww3 y), .int .u64 (ww2 y), .int .u64 (ww1 y), .int .u64 (ww0 y), .int .u64 (ww3 z), .int .u64 (ww2 z), .int .u64 (ww1 z), .int .u64 (ww0 z)] 40)).alloc (.cells #[.int .u64 (ww3 u), .int .u64 (ww2 u), .int .u64 (ww1 u), .int .u64 (ww0 u), .int .u64 (ww3 v), .int .u64 (ww2 v), .int .u64 (ww1 v), .int .u64 (ww0 v), .int .u64 (ww3 t), .int .u64 (ww2 t), .int .u64 (ww1 t), .int .u64 (ww0 t)] 40)).alloc (.cells #[.int .u64 (ww3 a), .int .u64 (ww2 a), .int .u64 (ww1 a), .int .u64 (ww0 a), .int .u64 (ww3 b), .int .u64 (ww2 b), .int .u64 (ww1 b), .int .u64 (ww0 b), .int .u64 (ww3 c), .int .u64 (ww2 c), .int .u64 (ww1 c), .int .u64 (ww0 c)] 40)).alloc (.cells #[.int .u64 0, .int .u64 0, .int .u64 0, .int .u64 0, .int .u64 0, .int .u64 0, .int .u64 0, .int .u64 0] 68)) [[.int .u64 (ww3 x), .int .u64 (ww2 x), .int .u64 (ww1 x), .int .u64 (ww0 x), .int .u64 (ww3 y), .int .u64 (ww2 y), .int .u64 (ww1 y), .int .u64 (ww0 y), .int .u64 (ww3 z), .int .u64 (ww2 z), .int .u64 (ww1 z), .int .u64 (ww0 z)], [.int .u64 (ww3 u), .int .u64 (ww2 u), .int .u64 (ww1 u), .int .u64 (ww0 u), .int .u64 (ww3 v), .int .u64 (ww2 v), .int .u64 (ww1 v), .int .u64 (ww0 v), .int .u64 (ww3 t), .int .u64 (ww2 t), .int .u64 (ww1 t), .int .u64 (ww0 t)], [.int .u64 (ww3 a), .int .u64 (ww2 a), .int .u64 (ww1 a), .int .u64 (ww0 a), .int .u64 (ww3 b), .int .u64 (ww2 b), .int .u64 (ww1 b), .int .u64 (ww0 b), .int .u64 (ww3 c), .int .u64 (ww2 c), .int .u64 (ww1 c), .int .u64 (ww0 c)], [.int .u64 0, .int .u64 0, .int .u64 0, .int .u64 0, .int .u64 0, .int .u64 0, .int .u64 0, .int .u64 0]] := ar4 _ _ _ _ _ _ _ _ w
  have m0 := minor_abs sy sz sv st
  have C0 := minor_sm y z v t sy sz sv st
  have D0 := times_sm sa m0
  have e0 := triple_abs sa m0
  have m1 := minor_abs sx sz su st
  have C1 := minor_sm x z u t sx sz su st
  have D1 := times_sm sb m1
  have e1 := triple_abs sb m1
  have m2 := minor_abs sx sy su sv
  have C2 := minor_sm x y u v sx sy su sv
  have D2 := times_sm sc m2
  have e2 := triple_abs sc m2
  have HO : Hid (detJ x y z u v t a b c = a * (y * t - z * v) - b * (x * t - z * u) + c * (x * v - y * u)) := rfl
  clear sx sy sz su sv st sa sb sc m0 m1 m2
  generalize hv0 : a * (y * t - z * v) = X at *
  generalize hv1 : b * (x * t - z * u) = Y at *
  generalize hv2 : c * (x * v - y * u) = Z at *
  generalize hw0 : y * t - z * v = M0 at *
  generalize hw1 : x * t - z * u = M1 at *
  generalize hw2 : x * v - y * u = M2 at *
  clear hv0 hv1 hv2 hw0 hw1 hw2
  have E1 := minus_det X Y (lr_abs (by omega)) (lr_abs (by omega)) (lr_abs (by omega))
  have E2 := plus_det (X - Y) Z (lr_abs (by omega)) (lr_abs (by omega)) (lr_abs (by omega))
  clear e0 e1 e2
  go_enter Tryz.func117, Tryz.ntmps117
  go_upto_region 1 with fail
  generalize ((((w.alloc (.cells #[.int .u64 (ww3 x), .int .u64 (ww2 x), .int .u64 (ww1 x), .int .u64 (ww0 x), .int .u64 (ww3 y), .int .u64 (ww2 y), .int .u64 (ww1 y), .int .u64 (ww0 y), .int .u64 (ww3 z), .int .u64 (ww2 z), .int .u64 (ww1 z), .int .u64 (ww0 z)] 40)).alloc (.cells #[.int .u64 (ww3 u), .int .u64 (ww2 u), .int .u64 (ww1 u), .int .u64 (ww0 u), .int .u64 (ww3 v), .int .u64 (ww2 v), .int .u64 (ww1 v), .int .u64 (ww0 v), .int .u64 (ww3 t), .int .u64 (ww2 t), .int .u64 (ww1 t), .int .u64 (ww0 t)] 40)).alloc (.cells #[.int .u64 (ww3 a), .int .u64 (ww2 a), .int .u64 (ww1 a), .int .u64 (ww0 a), .int .u64 (ww3 b), .int .u64 (ww2 b), .int .u64 (ww1 b), .int .u64 (ww0 b), .int .u64 (ww3 c), .int .u64 (ww2 c), .int .u64 (ww1 c), .int .u64 (ww0 c)] 40)).alloc (.cells #[.int .u64 0, .int .u64 0, .int .u64 0, .int .u64 0, .int .u64 0, .int .u64 0, .int .u64 0, .int .u64 0] 68)) = W at *
  have h0 := (T0.b 3 rfl).lt
  go_cut [7] (fun p wx => (∃ g, p = .pointer (some ⟨g, 0, none⟩) ∧ w.heap.size + 4 ≤ g ∧ ArgsB w wx [[.int .u64 (ww3 x), .int .u64 (ww2 x), .int .u64 (ww1 x), .int .u64 (ww0 x), .int .u64 (ww3 y), .int .u64 (ww2 y), .int .u64 (ww1 y), .int .u64 (ww0 y), .int .u64 (ww3 z), .int .u64 (ww2 z), .int .u64 (ww1 z), .int .u64 (ww0 z)], [.int .u64 (ww3 u), .int .u64 (ww2 u), .int .u64 (ww1 u), .int .u64 (ww0 u), .int .u64 (ww3 v), .int .u64 (ww2 v), .int .u64 (ww1 v), .int .u64 (ww0 v), .int .u64 (ww3 t), .int .u64 (ww2 t), .int .u64 (ww1 t), .int .u64 (ww0 t)], [.int .u64 (ww3 a), .int .u64 (ww2 a), .int .u64 (ww1 a), .int .u64 (ww0 a), .int .u64 (ww3 b), .int .u64 (ww2 b), .int .u64 (ww1 b), .int .u64 (ww0 b), .int .u64 (ww3 c), .int .u64 (ww2 c), .int .u64 (ww1 c), .int .u64 (ww0 c)], [.int .u64 0, .int .u64 0, .int .u64 0, .int .u64 0, .int .u64 0, .int .u64 0, .int .u64 0, .int .u64 0]] ∧ Blk wx g [.int .u64 (lw0 X), .int .u64 (lw1 X), .int .u64 (lw2 X), .int .u64 (lw3 X), .int .u64 (lw4 X), .int .u64 (lw5 X), .int .u64 (lw6 X), .int .u64 (lw7 X)]))
  case first =>
    go_region_held3 (fun w' => w'.cell? ⟨w.heap.size, 0, none⟩ = some (.int .u64 (ww3 x)) ∧ w'.cell? ⟨w.heap.size, 1, none⟩ = some (.int .u64 (ww2 x)) ∧ w'.cell? ⟨w.heap.size, 2, none⟩ = some (.int .u64 (ww1 x)) ∧ w'.cell? ⟨w.heap.size, 3, none⟩ = some (.int .u64 (ww0 x)) ∧ w'.cell? ⟨w.heap.size, 4, none⟩ = some (.int .u64 (ww3 y)) ∧ w'.cell? ⟨w.heap.size, 5, none⟩ = some (.int .u64 (ww2 y)) ∧ w'.cell? ⟨w.heap.size, 6, none⟩ = some (.int .u64 (ww1 y)) ∧ w'.cell? ⟨w.heap.size, 7, none⟩ = some (.int .u64 (ww0 y)) ∧ w'.cell? ⟨w.heap.size, 8, none⟩ = some (.int .u64 (ww3 z)) ∧ w'.cell? ⟨w.heap.size, 9, none⟩ = some (.int .u64 (ww2 z)) ∧ w'.cell? ⟨w.heap.size, 10, none⟩ = some (.int .u64 (ww1 z)) ∧ w'.cell? ⟨w.heap.size, 11, none⟩ = some (.int .u64 (ww0 z)) ∧ w'.cell? ⟨w.heap.size + 1, 0, none⟩ = some (.int .u64 (ww3 u)) ∧ w'.cell? ⟨w.heap.size + 1, 1, none⟩ = some (.int .u64 (ww2 u)) ∧ w'.cell? ⟨w.heap.size + 1, 2, none⟩ = some (.int .u64 (ww1 u)) ∧ w'.cell? ⟨w.heap.size + 1, 3, none⟩ = some (.int .u64 (ww0 u)) ∧ w'.cell? ⟨w.heap.size + 1, 4, none⟩ = some (.int .u64 (ww3 v)) ∧ w'.cell? ⟨w.heap.size + 1, 5, none⟩ = some (.int .u64 (ww2 v)) ∧ w'.cell? ⟨w.heap.size + 1, 6, none⟩ = some (.int .u64 (ww1 v)) ∧ w'.cell? ⟨w.heap.size + 1, 7, none⟩ = some (.int .u64 (ww0 v)) ∧ w'.cell? ⟨w.heap.size + 1, 8, none⟩ = some (.int .u64 (ww3 t)) ∧ w'.cell? ⟨w.heap.size + 1, 9, none⟩ = some (.int .u64 (ww2 t)) ∧ w'.cell? ⟨w.heap.size + 1, 10, none⟩ = some (.int .u64 (ww1 t)) ∧ w'.cell? ⟨w.heap.size + 1, 11, none⟩ = some (.int .u64 (ww0 t)) ∧ w'.cell? ⟨w.heap.size + 2, 0, none⟩ = some (.int .u64 (ww3 a)) ∧ w'.cell? ⟨w.heap.size + 2, 1, none⟩ = some (.int .u64 (ww2 a)) ∧ w'.cell? ⟨w.heap.size + 2, 2, none⟩ = some (.int .u64 (ww1 a)) ∧ w'.cell? ⟨w.heap.size + 2, 3, none⟩ = some (.int .u64 (ww0 a)) ∧ w'.cell? ⟨w.heap.size + 2, 4, none⟩ = some (.int .u64 (ww3 b)) ∧ w'.cell? ⟨w.heap.size + 2, 5, none⟩ = some (.int .u64 (ww2 b)) ∧ w'.cell? ⟨w.heap.size + 2, 6, none⟩ = some (.int .u64 (ww1 b)) ∧ w'.cell? ⟨w.heap.size + 2, 7, none⟩ = some (.int .u64 (ww0 b)) ∧ w'.cell? ⟨w.heap.size + 2, 8, none⟩ = some (.int .u64 (ww3 c)) ∧ w'.cell? ⟨w.heap.size + 2, 9, none⟩ = some (.int .u64 (ww2 c)) ∧ w'.cell? ⟨w.heap.size + 2, 10, none⟩ = some (.int .u64 (ww1 c)) ∧ w'.cell? ⟨w.heap.size + 2, 11, none⟩ = some (.int .u64 (ww0 c))) ((refine t3_cells ?_ <;> repeat (first | (with_reducible exact T0) | (with_reducible refine ArgsB.drew ?_) | (with_reducible refine ArgsB.alloc ?_ _) | (with_reducible refine ArgsB.set8g ?_ (by simp; omega) _ _ _ _ _ _ _ _))))
      (first
        | (go_at_call 42; refine (C0 _).mono ?_; rintro e v01 ⟨rfl, hB⟩; (first | (have T1 : ArgsB w v01 _ := (by with_reducible exact T0.step hB); have tltv01 := (T0.b 3 rfl).lt; (try (replace G0 := G0.step hB; obtain ⟨j0c, j0f, j1c, j1f, j2c, j2f, j3c, j3f, j4c, j4f, j5c, j5f, j6c, j6f, j7c, j7f⟩ := G0.cf8; have jlt := G0.lt))) | (have T1 : ArgsB w v01 _ := (by with_reducible exact T0.drew.step hB); have tltv01 := (T0.b 3 rfl).lt; (try (replace G0 := G0.drew.step hB; obtain ⟨j0c, j0f, j1c, j1f, j2c, j2f, j3c, j3f, j4c, j4f, j5c, j5f, j6c, j6f, j7c, j7f⟩ := G0.cf8; have jlt := G0.lt))) | (have T1 : ArgsB w v01 _ := (by with_reducible exact (T0.alloc _).step hB); have tltv01 := (T0.b 3 rfl).lt; (have G0 := (Blk.new _ [.int .u64 0, .int .u64 0, .int .u64 0, .int .u64 0, .int .u64 0, .int .u64 0, .int .u64 0, .int .u64 0] _ rfl).step hB; obtain ⟨j0c, j0f, j1c, j1f, j2c, j2f, j3c, j3f, j4c, j4f, j5c, j5f, j6c, j6f, j7c, j7f⟩ := G0.cf8; have jlt := G0.lt)) | (have T1 : ArgsB w v01 _ := (by with_reducible exact (T0.alloc _).drew.step hB); have tltv01 := (T0.b 3 rfl).lt; (have G0 := (Blk.new _ [.int .u64 0, .int .u64 0, .int .u64 0, .int .u64 0, .int .u64 0, .int .u64 0, .int .u64 0, .int .u64 0] _ rfl).drew.step hB; obtain ⟨j0c, j0f, j1c, j1f, j2c, j2f, j3c, j3f, j4c, j4f, j5c, j5f, j6c, j6f, j7c, j7f⟩ := G0.cf8; have jlt := G0.lt))); clear T0; have T0 := T1; clear T1; clear hB)
        | (go_at_call 33; refine (D0 _).mono ?_; rintro e v02 ⟨rfl, hB⟩; (first | (have T1 : ArgsB w v02 _ := (by with_reducible exact T0.step hB); have tltv02 := (T0.b 3 rfl).lt; (try (replace G0 := G0.step hB; obtain ⟨j0c, j0f, j1c, j1f, j2c, j2f, j3c, j3f, j4c, j4f, j5c, j5f, j6c, j6f, j7c, j7f⟩ := G0.cf8; have jlt := G0.lt))) | (have T1 : ArgsB w v02 _ := (by with_reducible exact T0.drew.step hB); have tltv02 := (T0.b 3 rfl).lt; (try (replace G0 := G0.drew.step hB; obtain ⟨j0c, j0f, j1c, j1f, j2c, j2f, j3c, j3f, j4c, j4f, j5c, j5f, j6c, j6f, j7c, j7f⟩ := G0.cf8; have jlt := G0.lt))) | (have T1 : ArgsB w v02 _ := (by with_reducible exact (T0.alloc _).step hB); have tltv02 := (T0.b 3 rfl).lt; (have G0 := (Blk.new _ [.int .u64 0, .int .u64 0, .int .u64 0, .int .u64 0, .int .u64 0, .int .u64 0, .int .u64 0, .int .u64 0] _ rfl).step hB; obtain ⟨j0c, j0f, j1c, j1f, j2c, j2f, j3c, j3f, j4c, j4f, j5c, j5f, j6c, j6f, j7c, j7f⟩ := G0.cf8; have jlt := G0.lt)) | (have T1 : ArgsB w v02 _ := (by with_reducible exact (T0.alloc _).drew.step hB); have tltv02 := (T0.b 3 rfl).lt; (have G0 := (Blk.new _ [.int .u64 0, .int .u64 0, .int .u64 0, .int .u64 0, .int .u64 0, .int .u64 0, .int .u64 0, .int .u64 0] _ rfl).drew.step hB; obtain ⟨j0c, j0f, j1c, j1f, j2c, j2f, j3c, j3f, j4c, j4f, j5c, j5f, j6c, j6f, j7c, j7f⟩ := G0.cf8; have jlt := G0.lt))); clear T0; have T0 := T1; clear T1; clear hB))
    all_goals go_wp2_with fail
    all_goals go_meet
    all_goals have hl := (T0.b 3 rfl).lt
    all_goals first | (with_reducible exact cutK_new T0 (by omega)) | (with_reducible exact cutK_set T0 G0 (by omega) (by simp; omega))
  case rest =>
    clear T0 h0 C0 D0 
    obtain ⟨gX, hp, hgX, T0, BX⟩ := hcut
    subst hp
    have h0 := (T0.b 3 rfl).lt
    go_upto_region 2 with fail
    go_cut [8] (fun p wx => (∃ g, p = .pointer (some ⟨g, 0, none⟩) ∧ gX + 1 ≤ g ∧ ArgsB w wx [[.int .u64 (ww3 x), .int .u64 (ww2 x), .int .u64 (ww1 x), .int .u64 (ww0 x), .int .u64 (ww3 y), .int .u64 (ww2 y), .int .u64 (ww1 y), .int .u64 (ww0 y), .int .u64 (ww3 z), .int .u64 (ww2 z), .int .u64 (ww1 z), .int .u64 (ww0 z)], [.int .u64 (ww3 u), .int .u64 (ww2 u), .int .u64 (ww1 u), .int .u64 (ww0 u), .int .u64 (ww3 v), .int .u64 (ww2 v), .int .u64 (ww1 v), .int .u64 (ww0 v), .int .u64 (ww3 t), .int .u64 (ww2 t), .int .u64 (ww1 t), .int .u64 (ww0 t)], [.int .u64 (ww3 a), .int .u64 (ww2 a), .int .u64 (ww1 a), .int .u64 (ww0 a), .int .u64 (ww3 b), .int .u64 (ww2 b), .int .u64 (ww1 b), .int .u64 (ww0 b), .int .u64 (ww3 c), .int .u64 (ww2 c), .int .u64 (ww1 c), .int .u64 (ww0 c)], [.int .u64 0, .int .u64 0, .int .u64 0, .int .u64 0, .int .u64 0, .int .u64 0, .int .u64 0, .int .u64 0]] ∧ Blk wx g [.int .u64 (lw0 Y), .int .u64 (lw1 Y), .int .u64 (lw2 Y), .int .u64 (lw3 Y), .int .u64 (lw4 Y), .int .u64 (lw5 Y), .int .u64 (lw6 Y), .int .u64 (lw7 Y)]) ∧ Blk wx gX [.int .u64 (lw0 X), .int .u64 (lw1 X), .int .u64 (lw2 X), .int .u64 (lw3 X), .int .u64 (lw4 X), .int .u64 (lw5 X), .int .u64 (lw6 X), .int .u64 (lw7 X)])
    case first =>
      go_region_held3 (fun w' => w'.cell? ⟨w.heap.size, 0, none⟩ = some (.int .u64 (ww3 x)) ∧ w'.cell? ⟨w.heap.size, 1, none⟩ = some (.int .u64 (ww2 x)) ∧ w'.cell? ⟨w.heap.size, 2, none⟩ = some (.int .u64 (ww1 x)) ∧ w'.cell? ⟨w.heap.size, 3, none⟩ = some (.int .u64 (ww0 x)) ∧ w'.cell? ⟨w.heap.size, 4, none⟩ = some (.int .u64 (ww3 y)) ∧ w'.cell? ⟨w.heap.size, 5, none⟩ = some (.int .u64 (ww2 y)) ∧ w'.cell? ⟨w.heap.size, 6, none⟩ = some (.int .u64 (ww1 y)) ∧ w'.cell? ⟨w.heap.size, 7, none⟩ = some (.int .u64 (ww0 y)) ∧ w'.cell? ⟨w.heap.size, 8, none⟩ = some (.int .u64 (ww3 z)) ∧ w'.cell? ⟨w.heap.size, 9, none⟩ = some (.int .u64 (ww2 z)) ∧ w'.cell? ⟨w.heap.size, 10, none⟩ = some (.int .u64 (ww1 z)) ∧ w'.cell? ⟨w.heap.size, 11, none⟩ = some (.int .u64 (ww0 z)) ∧ w'.cell? ⟨w.heap.size + 1, 0, none⟩ = some (.int .u64 (ww3 u)) ∧ w'.cell? ⟨w.heap.size + 1, 1, none⟩ = some (.int .u64 (ww2 u)) ∧ w'.cell? ⟨w.heap.size + 1, 2, none⟩ = some (.int .u64 (ww1 u)) ∧ w'.cell? ⟨w.heap.size + 1, 3, none⟩ = some (.int .u64 (ww0 u)) ∧ w'.cell? ⟨w.heap.size + 1, 4, none⟩ = some (.int .u64 (ww3 v)) ∧ w'.cell? ⟨w.heap.size + 1, 5, none⟩ = some (.int .u64 (ww2 v)) ∧ w'.cell? ⟨w.heap.size + 1, 6, none⟩ = some (.int .u64 (ww1 v)) ∧ w'.cell? ⟨w.heap.size + 1, 7, none⟩ = some (.int .u64 (ww0 v)) ∧ w'.cell? ⟨w.heap.size + 1, 8, none⟩ = some (.int .u64 (ww3 t)) ∧ w'.cell? ⟨w.heap.size + 1, 9, none⟩ = some (.int .u64 (ww2 t)) ∧ w'.cell? ⟨w.heap.size + 1, 10, none⟩ = some (.int .u64 (ww1 t)) ∧ w'.cell? ⟨w.heap.size + 1, 11, none⟩ = some (.int .u64 (ww0 t)) ∧ w'.cell? ⟨w.heap.size + 2, 0, none⟩ = some (.int .u64 (ww3 a)) ∧ w'.cell? ⟨w.heap.size + 2, 1, none⟩ = some (.int .u64 (ww2 a)) ∧ w'.cell? ⟨w.heap.size + 2, 2, none⟩ = some (.int .u64 (ww1 a)) ∧ w'.cell? ⟨w.heap.size + 2, 3, none⟩ = some (.int .u64 (ww0 a)) ∧ w'.cell? ⟨w.heap.size + 2, 4, none⟩ = some (.int .u64 (ww3 b)) ∧ w'.cell? ⟨w.heap.size + 2, 5, none⟩ = some (.int .u64 (ww2 b)) ∧ w'.cell? ⟨w.heap.size + 2, 6, none⟩ = some (.int .u64 (ww1 b)) ∧ w'.cell? ⟨w.heap.size + 2, 7, none⟩ = some (.int .u64 (ww0 b)) ∧ w'.cell? ⟨w.heap.size + 2, 8, none⟩ = some (.int .u64 (ww3 c)) ∧ w'.cell? ⟨w.heap.size + 2, 9, none⟩ = some (.int .u64 (ww2 c)) ∧ w'.cell? ⟨w.heap.size + 2, 10, none⟩ = some (.int .u64 (ww1 c)) ∧ w'.cell? ⟨w.heap.size + 2, 11, none⟩ = some (.int .u64 (ww0 c))) ((refine t3_cells ?_ <;> repeat (first | (with_reducible exact T0) | (with_reducible refine ArgsB.drew ?_) | (with_reducible refine ArgsB.alloc ?_ _) | (with_reducible refine ArgsB.set8g ?_ (by simp; omega) _ _ _ _ _ _ _ _))))
        (first
          | (go_at_call 42; refine (C1 _).mono ?_; rintro e v11 ⟨rfl, hB⟩; (first | (have T1 : ArgsB w v11 _ := (by with_reducible exact T0.step hB); have tltv11 := (T0.b 3 rfl).lt; have lBXv11 := BX.lt; replace BX := BX.step hB; (try (replace G0 := G0.step hB; obtain ⟨j0c, j0f, j1c, j1f, j2c, j2f, j3c, j3f, j4c, j4f, j5c, j5f, j6c, j6f, j7c, j7f⟩ := G0.cf8; have jlt := G0.lt))) | (have T1 : ArgsB w v11 _ := (by with_reducible exact T0.drew.step hB); have tltv11 := (T0.b 3 rfl).lt; have lBXv11 := BX.lt; replace BX := BX.drew.step hB; (try (replace G0 := G0.drew.step hB; obtain ⟨j0c, j0f, j1c, j1f, j2c, j2f, j3c, j3f, j4c, j4f, j5c, j5f, j6c, j6f, j7c, j7f⟩ := G0.cf8; have jlt := G0.lt))) | (have T1 : ArgsB w v11 _ := (by with_reducible exact (T0.alloc _).step hB); have tltv11 := (T0.b 3 rfl).lt; have lBXv11 := BX.lt; replace BX := (BX.alloc _).step hB; (have G0 := (Blk.new _ [.int .u64 0, .int .u64 0, .int .u64 0, .int .u64 0, .int .u64 0, .int .u64 0, .int .u64 0, .int .u64 0] _ rfl).step hB; obtain ⟨j0c, j0f, j1c, j1f, j2c, j2f, j3c, j3f, j4c, j4f, j5c, j5f, j6c, j6f, j7c, j7f⟩ := G0.cf8; have jlt := G0.lt)) | (have T1 : ArgsB w v11 _ := (by with_reducible exact (T0.alloc _).drew.step hB); have tltv11 := (T0.b 3 rfl).lt; have lBXv11 := BX.lt; replace BX := (BX.alloc _).drew.step hB; (have G0 := (Blk.new _ [.int .u64 0, .int .u64 0, .int .u64 0, .int .u64 0, .int .u64 0, .int .u64 0, .int .u64 0, .int .u64 0] _ rfl).drew.step hB; obtain ⟨j0c, j0f, j1c, j1f, j2c, j2f, j3c, j3f, j4c, j4f, j5c, j5f, j6c, j6f, j7c, j7f⟩ := G0.cf8; have jlt := G0.lt))); clear T0; have T0 := T1; clear T1; clear hB)
          | (go_at_call 33; refine (D1 _).mono ?_; rintro e v12 ⟨rfl, hB⟩; (first | (have T1 : ArgsB w v12 _ := (by with_reducible exact T0.step hB); have tltv12 := (T0.b 3 rfl).lt; have lBXv12 := BX.lt; replace BX := BX.step hB; (try (replace G0 := G0.step hB; obtain ⟨j0c, j0f, j1c, j1f, j2c, j2f, j3c, j3f, j4c, j4f, j5c, j5f, j6c, j6f, j7c, j7f⟩ := G0.cf8; have jlt := G0.lt))) | (have T1 : ArgsB w v12 _ := (by with_reducible exact T0.drew.step hB); have tltv12 := (T0.b 3 rfl).lt; have lBXv12 := BX.lt; replace BX := BX.drew.step hB; (try (replace G0 := G0.drew.step hB; obtain ⟨j0c, j0f, j1c, j1f, j2c, j2f, j3c, j3f, j4c, j4f, j5c, j5f, j6c, j6f, j7c, j7f⟩ := G0.cf8; have jlt := G0.lt))) | (have T1 : ArgsB w v12 _ := (by with_reducible exact (T0.alloc _).step hB); have tltv12 := (T0.b 3 rfl).lt; have lBXv12 := BX.lt; replace BX := (BX.alloc _).step hB; (have G0 := (Blk.new _ [.int .u64 0, .int .u64 0, .int .u64 0, .int .u64 0, .int .u64 0, .int .u64 0, .int .u64 0, .int .u64 0] _ rfl).step hB; obtain ⟨j0c, j0f, j1c, j1f, j2c, j2f, j3c, j3f, j4c, j4f, j5c, j5f, j6c, j6f, j7c, j7f⟩ := G0.cf8; have jlt := G0.lt)) | (have T1 : ArgsB w v12 _ := (by with_reducible exact (T0.alloc _).drew.step hB); have tltv12 := (T0.b 3 rfl).lt; have lBXv12 := BX.lt; replace BX := (BX.alloc _).drew.step hB; (have G0 := (Blk.new _ [.int .u64 0, .int .u64 0, .int .u64 0, .int .u64 0, .int .u64 0, .int .u64 0, .int .u64 0, .int .u64 0] _ rfl).drew.step hB; obtain ⟨j0c, j0f, j1c, j1f, j2c, j2f, j3c, j3f, j4c, j4f, j5c, j5f, j6c, j6f, j7c, j7f⟩ := G0.cf8; have jlt := G0.lt))); clear T0; have T0 := T1; clear T1; clear hB))
      all_goals go_wp2_with fail
      all_goals go_meet
      all_goals have hl := (T0.b 3 rfl).lt
      all_goals have hlX := BX.lt
      all_goals first | (with_reducible exact ⟨cutK_new T0 (by omega), BX.alloc _⟩) | (with_reducible exact ⟨cutK_set T0 G0 (by omega) (by simp; omega), BX.set8 (by omega)⟩)
    case rest =>
      clear T0 h0 C1 D1 BX
      obtain ⟨⟨gY, hp, hgY, T0, BY⟩, BX⟩ := hcut
      subst hp
      have h0 := (T0.b 3 rfl).lt
      go_upto_region 3 with fail
      go_cut [9] (fun p wx => (∃ g, p = .pointer (some ⟨g, 0, none⟩) ∧ gY + 1 ≤ g ∧ ArgsB w wx [[.int .u64 (ww3 x), .int .u64 (ww2 x), .int .u64 (ww1 x), .int .u64 (ww0 x), .int .u64 (ww3 y), .int .u64 (ww2 y), .int .u64 (ww1 y), .int .u64 (ww0 y), .int .u64 (ww3 z), .int .u64 (ww2 z), .int .u64 (ww1 z), .int .u64 (ww0 z)], [.int .u64 (ww3 u), .int .u64 (ww2 u), .int .u64 (ww1 u), .int .u64 (ww0 u), .int .u64 (ww3 v), .int .u64 (ww2 v), .int .u64 (ww1 v), .int .u64 (ww0 v), .int .u64 (ww3 t), .int .u64 (ww2 t), .int .u64 (ww1 t), .int .u64 (ww0 t)], [.int .u64 (ww3 a), .int .u64 (ww2 a), .int .u64 (ww1 a), .int .u64 (ww0 a), .int .u64 (ww3 b), .int .u64 (ww2 b), .int .u64 (ww1 b), .int .u64 (ww0 b), .int .u64 (ww3 c), .int .u64 (ww2 c), .int .u64 (ww1 c), .int .u64 (ww0 c)], [.int .u64 0, .int .u64 0, .int .u64 0, .int .u64 0, .int .u64 0, .int .u64 0, .int .u64 0, .int .u64 0]] ∧ Blk wx g [.int .u64 (lw0 Z), .int .u64 (lw1 Z), .int .u64 (lw2 Z), .int .u64 (lw3 Z), .int .u64 (lw4 Z), .int .u64 (lw5 Z), .int .u64 (lw6 Z), .int .u64 (lw7 Z)]) ∧ Blk wx gX [.int .u64 (lw0 X), .int .u64 (lw1 X), .int .u64 (lw2 X), .int .u64 (lw3 X), .int .u64 (lw4 X), .int .u64 (lw5 X), .int .u64 (lw6 X), .int .u64 (lw7 X)] ∧ Blk wx gY [.int .u64 (lw0 Y), .int .u64 (lw1 Y), .int .u64 (lw2 Y), .int .u64 (lw3 Y), .int .u64 (lw4 Y), .int .u64 (lw5 Y), .int .u64 (lw6 Y), .int .u64 (lw7 Y)])
      case first =>
        go_region_held3 (fun w' => w'.cell? ⟨w.heap.size, 0, none⟩ = some (.int .u64 (ww3 x)) ∧ w'.cell? ⟨w.heap.size, 1, none⟩ = some (.int .u64 (ww2 x)) ∧ w'.cell? ⟨w.heap.size, 2, none⟩ = some (.int .u64 (ww1 x)) ∧ w'.cell? ⟨w.heap.size, 3, none⟩ = some (.int .u64 (ww0 x)) ∧ w'.cell? ⟨w.heap.size, 4, none⟩ = some (.int .u64 (ww3 y)) ∧ w'.cell? ⟨w.heap.size, 5, none⟩ = some (.int .u64 (ww2 y)) ∧ w'.cell? ⟨w.heap.size, 6, none⟩ = some (.int .u64 (ww1 y)) ∧ w'.cell? ⟨w.heap.size, 7, none⟩ = some (.int .u64 (ww0 y)) ∧ w'.cell? ⟨w.heap.size, 8, none⟩ = some (.int .u64 (ww3 z)) ∧ w'.cell? ⟨w.heap.size, 9, none⟩ = some (.int .u64 (ww2 z)) ∧ w'.cell? ⟨w.heap.size, 10, none⟩ = some (.int .u64 (ww1 z)) ∧ w'.cell? ⟨w.heap.size, 11, none⟩ = some (.int .u64 (ww0 z)) ∧ w'.cell? ⟨w.heap.size + 1, 0, none⟩ = some (.int .u64 (ww3 u)) ∧ w'.cell? ⟨w.heap.size + 1, 1, none⟩ = some (.int .u64 (ww2 u)) ∧ w'.cell? ⟨w.heap.size + 1, 2, none⟩ = some (.int .u64 (ww1 u)) ∧ w'.cell? ⟨w.heap.size + 1, 3, none⟩ = some (.int .u64 (ww0 u)) ∧ w'.cell? ⟨w.heap.size + 1, 4, none⟩ = some (.int .u64 (ww3 v)) ∧ w'.cell? ⟨w.heap.size + 1, 5, none⟩ = some (.int .u64 (ww2 v)) ∧ w'.cell? ⟨w.heap.size + 1, 6, none⟩ = some (.int .u64 (ww1 v)) ∧ w'.cell? ⟨w.heap.size + 1, 7, none⟩ = some (.int .u64 (ww0 v)) ∧ w'.cell? ⟨w.heap.size + 1, 8, none⟩ = some (.int .u64 (ww3 t)) ∧ w'.cell? ⟨w.heap.size + 1, 9, none⟩ = some (.int .u64 (ww2 t)) ∧ w'.cell? ⟨w.heap.size + 1, 10, none⟩ = some (.int .u64 (ww1 t)) ∧ w'.cell? ⟨w.heap.size + 1, 11, none⟩ = some (.int .u64 (ww0 t)) ∧ w'.cell? ⟨w.heap.size + 2, 0, none⟩ = some (.int .u64 (ww3 a)) ∧ w'.cell? ⟨w.heap.size + 2, 1, none⟩ = some (.int .u64 (ww2 a)) ∧ w'.cell? ⟨w.heap.size + 2, 2, none⟩ = some (.int .u64 (ww1 a)) ∧ w'.cell? ⟨w.heap.size + 2, 3, none⟩ = some (.int .u64 (ww0 a)) ∧ w'.cell? ⟨w.heap.size + 2, 4, none⟩ = some (.int .u64 (ww3 b)) ∧ w'.cell? ⟨w.heap.size + 2, 5, none⟩ = some (.int .u64 (ww2 b)) ∧ w'.cell? ⟨w.heap.size + 2, 6, none⟩ = some (.int .u64 (ww1 b)) ∧ w'.cell? ⟨w.heap.size + 2, 7, none⟩ = some (.int .u64 (ww0 b)) ∧ w'.cell? ⟨w.heap.size + 2, 8, none⟩ = some (.int .u64 (ww3 c)) ∧ w'.cell? ⟨w.heap.size + 2, 9, none⟩ = some (.int .u64 (ww2 c)) ∧ w'.cell? ⟨w.heap.size + 2, 10, none⟩ = some (.int .u64 (ww1 c)) ∧ w'.cell? ⟨w.heap.size + 2, 11, none⟩ = some (.int .u64 (ww0 c))) ((refine t3_cells ?_ <;> repeat (first | (with_reducible exact T0) | (with_reducible refine ArgsB.drew ?_) | (with_reducible refine ArgsB.alloc ?_ _) | (with_reducible refine ArgsB.set8g ?_ (by simp; omega) _ _ _ _ _ _ _ _))))
          (first
            | (go_at_call 42; refine (C2 _).mono ?_; rintro e v21 ⟨rfl, hB⟩; (first | (have T1 : ArgsB w v21 _ := (by with_reducible exact T0.step hB); have tltv21 := (T0.b 3 rfl).lt; have lBXv21 := BX.lt; replace BX := BX.step hB; have lBYv21 := BY.lt; replace BY := BY.step hB; (try (replace G0 := G0.step hB; obtain ⟨j0c, j0f, j1c, j1f, j2c, j2f, j3c, j3f, j4c, j4f, j5c, j5f, j6c, j6f, j7c, j7f⟩ := G0.cf8; have jlt := G0.lt))) | (have T1 : ArgsB w v21 _ := (by with_reducible exact T0.drew.step hB); have tltv21 := (T0.b 3 rfl).lt; have lBXv21 := BX.lt; replace BX := BX.drew.step hB; have lBYv21 := BY.lt; replace BY := BY.drew.step hB; (try (replace G0 := G0.drew.step hB; obtain ⟨j0c, j0f, j1c, j1f, j2c, j2f, j3c, j3f, j4c, j4f, j5c, j5f, j6c, j6f, j7c, j7f⟩ := G0.cf8; have jlt := G0.lt))) | (have T1 : ArgsB w v21 _ := (by with_reducible exact (T0.alloc _).step hB); have tltv21 := (T0.b 3 rfl).lt; have lBXv21 := BX.lt; replace BX := (BX.alloc _).step hB; have lBYv21 := BY.lt; replace BY := (BY.alloc _).step hB; (have G0 := (Blk.new _ [.int .u64 0, .int .u64 0, .int .u64 0, .int .u64 0, .int .u64 0, .int .u64 0, .int .u64 0, .int .u64 0] _ rfl).step hB; obtain ⟨j0c, j0f, j1c, j1f, j2c, j2f, j3c, j3f, j4c, j4f, j5c, j5f, j6c, j6f, j7c, j7f⟩ := G0.cf8; have jlt := G0.lt)) | (have T1 : ArgsB w v21 _ := (by with_reducible exact (T0.alloc _).drew.step hB); have tltv21 := (T0.b 3 rfl).lt; have lBXv21 := BX.lt; replace BX := (BX.alloc _).drew.step hB; have lBYv21 := BY.lt; replace BY := (BY.alloc _).drew.step hB; (have G0 := (Blk.new _ [.int .u64 0, .int .u64 0, .int .u64 0, .int .u64 0, .int .u64 0, .int .u64 0, .int .u64 0, .int .u64 0] _ rfl).drew.step hB; obtain ⟨j0c, j0f, j1c, j1f, j2c, j2f, j3c, j3f, j4c, j4f, j5c, j5f, j6c, j6f, j7c, j7f⟩ := G0.cf8; have jlt := G0.lt))); clear T0; have T0 := T1; clear T1; clear hB)
            | (go_at_call 33; refine (D2 _).mono ?_; rintro e v22 ⟨rfl, hB⟩; (first | (have T1 : ArgsB w v22 _ := (by with_reducible exact T0.step hB); have tltv22 := (T0.b 3 rfl).lt; have lBXv22 := BX.lt; replace BX := BX.step hB; have lBYv22 := BY.lt; replace BY := BY.step hB; (try (replace G0 := G0.step hB; obtain ⟨j0c, j0f, j1c, j1f, j2c, j2f, j3c, j3f, j4c, j4f, j5c, j5f, j6c, j6f, j7c, j7f⟩ := G0.cf8; have jlt := G0.lt))) | (have T1 : ArgsB w v22 _ := (by with_reducible exact T0.drew.step hB); have tltv22 := (T0.b 3 rfl).lt; have lBXv22 := BX.lt; replace BX := BX.drew.step hB; have lBYv22 := BY.lt; replace BY := BY.drew.step hB; (try (replace G0 := G0.drew.step hB; obtain ⟨j0c, j0f, j1c, j1f, j2c, j2f, j3c, j3f, j4c, j4f, j5c, j5f, j6c, j6f, j7c, j7f⟩ := G0.cf8; have jlt := G0.lt))) | (have T1 : ArgsB w v22 _ := (by with_reducible exact (T0.alloc _).step hB); have tltv22 := (T0.b 3 rfl).lt; have lBXv22 := BX.lt; replace BX := (BX.alloc _).step hB; have lBYv22 := BY.lt; replace BY := (BY.alloc _).step hB; (have G0 := (Blk.new _ [.int .u64 0, .int .u64 0, .int .u64 0, .int .u64 0, .int .u64 0, .int .u64 0, .int .u64 0, .int .u64 0] _ rfl).step hB; obtain ⟨j0c, j0f, j1c, j1f, j2c, j2f, j3c, j3f, j4c, j4f, j5c, j5f, j6c, j6f, j7c, j7f⟩ := G0.cf8; have jlt := G0.lt)) | (have T1 : ArgsB w v22 _ := (by with_reducible exact (T0.alloc _).drew.step hB); have tltv22 := (T0.b 3 rfl).lt; have lBXv22 := BX.lt; replace BX := (BX.alloc _).drew.step hB; have lBYv22 := BY.lt; replace BY := (BY.alloc _).drew.step hB; (have G0 := (Blk.new _ [.int .u64 0, .int .u64 0, .int .u64 0, .int .u64 0, .int .u64 0, .int .u64 0, .int .u64 0, .int .u64 0] _ rfl).drew.step hB; obtain ⟨j0c, j0f, j1c, j1f, j2c, j2f, j3c, j3f, j4c, j4f, j5c, j5f, j6c, j6f, j7c, j7f⟩ := G0.cf8; have jlt := G0.lt))); clear T0; have T0 := T1; clear T1; clear hB))
        all_goals go_wp2_with fail
        all_goals go_meet
        all_goals have hl := (T0.b 3 rfl).lt
        all_goals have hlX := BX.lt
        all_goals have hlY := BY.lt
        all_goals first | (with_reducible exact ⟨cutK_new T0 (by omega), BX.alloc _, BY.alloc _⟩) | (with_reducible exact ⟨cutK_set T0 G0 (by omega) (by simp; omega), BX.set8 (by omega), BY.set8 (by omega)⟩)
      case rest =>
        clear T0 h0 C2 D2 BX BY
        obtain ⟨⟨gZ, hp, hgZ, T0, BZ⟩, BX, BY⟩ := hcut
        subst hp
        have h0 := (T0.b 3 rfl).lt
        clear h0
        go_upto_region 4 with fail
        go_region_held3 (fun w' => w'.cell? ⟨gX, 0, none⟩ = some (.int .u64 (lw0 X)) ∧ w'.cell? ⟨gX, 1, none⟩ = some (.int .u64 (lw1 X)) ∧ w'.cell? ⟨gX, 2, none⟩ = some (.int .u64 (lw2 X)) ∧ w'.cell? ⟨gX, 3, none⟩ = some (.int .u64 (lw3 X)) ∧ w'.cell? ⟨gX, 4, none⟩ = some (.int .u64 (lw4 X)) ∧ w'.cell? ⟨gX, 5, none⟩ = some (.int .u64 (lw5 X)) ∧ w'.cell? ⟨gX, 6, none⟩ = some (.int .u64 (lw6 X)) ∧ w'.cell? ⟨gX, 7, none⟩ = some (.int .u64 (lw7 X)) ∧ w'.cell? ⟨gY, 0, none⟩ = some (.int .u64 (lw0 Y)) ∧ w'.cell? ⟨gY, 1, none⟩ = some (.int .u64 (lw1 Y)) ∧ w'.cell? ⟨gY, 2, none⟩ = some (.int .u64 (lw2 Y)) ∧ w'.cell? ⟨gY, 3, none⟩ = some (.int .u64 (lw3 Y)) ∧ w'.cell? ⟨gY, 4, none⟩ = some (.int .u64 (lw4 Y)) ∧ w'.cell? ⟨gY, 5, none⟩ = some (.int .u64 (lw5 Y)) ∧ w'.cell? ⟨gY, 6, none⟩ = some (.int .u64 (lw6 Y)) ∧ w'.cell? ⟨gY, 7, none⟩ = some (.int .u64 (lw7 Y)) ∧ w'.cell? ⟨gZ, 0, none⟩ = some (.int .u64 (lw0 Z)) ∧ w'.cell? ⟨gZ, 1, none⟩ = some (.int .u64 (lw1 Z)) ∧ w'.cell? ⟨gZ, 2, none⟩ = some (.int .u64 (lw2 Z)) ∧ w'.cell? ⟨gZ, 3, none⟩ = some (.int .u64 (lw3 Z)) ∧ w'.cell? ⟨gZ, 4, none⟩ = some (.int .u64 (lw4 Z)) ∧ w'.cell? ⟨gZ, 5, none⟩ = some (.int .u64 (lw5 Z)) ∧ w'.cell? ⟨gZ, 6, none⟩ = some (.int .u64 (lw6 Z)) ∧ w'.cell? ⟨gZ, 7, none⟩ = some (.int .u64 (lw7 Z))) (first | (with_reducible exact tl_cells BX BY BZ) | (with_reducible exact tl_cells BX.drew BY.drew BZ.drew) | (with_reducible exact tl_cells8 BX BY BZ (by omega) (by omega) (by omega)))
          (first
            | (go_at_call 73; refine (E1 _).mono ?_; rintro e f1 ⟨rfl, hB⟩; (first | (replace BX := BX.step hB; replace BY := BY.step hB; replace BZ := BZ.step hB; replace T0 := T0.step hB) | (replace BX := BX.drew.step hB; replace BY := BY.drew.step hB; replace BZ := BZ.drew.step hB; replace T0 := T0.drew.step hB)); clear hB)
            | (go_at_call 43; refine (E2 _).mono ?_; rintro e f2 ⟨rfl, hB⟩; (first | (replace BX := BX.step hB; replace BY := BY.step hB; replace BZ := BZ.step hB; replace T0 := T0.step hB) | (replace BX := BX.drew.step hB; replace BY := BY.drew.step hB; replace BZ := BZ.drew.step hB; replace T0 := T0.drew.step hB)); clear hB; have o0 := (T0.b 3 rfl).c 0 rfl; have p0 := (T0.b 3 rfl).f 0 rfl; have o1 := (T0.b 3 rfl).c 1 rfl; have p1 := (T0.b 3 rfl).f 1 rfl; have o2 := (T0.b 3 rfl).c 2 rfl; have p2 := (T0.b 3 rfl).f 2 rfl; have o3 := (T0.b 3 rfl).c 3 rfl; have p3 := (T0.b 3 rfl).f 3 rfl; have o4 := (T0.b 3 rfl).c 4 rfl; have p4 := (T0.b 3 rfl).f 4 rfl; have o5 := (T0.b 3 rfl).c 5 rfl; have p5 := (T0.b 3 rfl).f 5 rfl; have o6 := (T0.b 3 rfl).c 6 rfl; have p6 := (T0.b 3 rfl).f 6 rfl; have o7 := (T0.b 3 rfl).c 7 rfl; have p7 := (T0.b 3 rfl).f 7 rfl; have olt := (T0.b 3 rfl).lt))
        all_goals have HB := T0.below
        all_goals clear BX BY BZ T0
        all_goals go_wp2
        all_goals refine bodyPost_ret (v := LV (X - Y + Z)) (by simp [results, Tryz.results117, go_sem, o0, o1, o2, o3, o4, o5, o6, o7]) rfl ?_
        all_goals refine ⟨by rw [HO.out], ?_⟩
        all_goals repeat' (refine Below.setCell ?_ (by simp; try omega) _)
        all_goals first | exact HB | exact HB.drew
theorem det_abs {x y z u v t a b c : Int} (sx : small x = true) (sy : small y = true) (sz : small z = true) (su : small u = true) (sv : small v = true) (st : small t = true) (sa : small a = true) (sb : small b = true) (sc : small c = true) : (detJ x y z u v t a b c).natAbs ≤ 10601082388670305977499785004457511094964903381253713748729637207755718656 := by
  have e0 := triple_abs sa (minor_abs sy sz sv st)
  have e1 := triple_abs sb (minor_abs sx sz su st)
  have e2 := triple_abs sc (minor_abs sx sy su sv)
  unfold detJ
  omega
set_option maxRecDepth 100000 in
set_option maxHeartbeats 2000000 in
theorem turn_det (x y z u v t a b c : Int) (sx : small x = true) (sy : small y = true) (sz : small z = true) (su : small u = true) (sv : small v = true) (st : small t = true) (sa : small a = true) (sb : small b = true) (sc : small c = true) (w : World) : Calls Tryz.prog 94 #[PV x y z, PV u v t, PV a b c] w (VP (.int .i64 (turnJ x y z u v t a b c)) w) := by
  have T0 : ArgsB w (((w.alloc (.cells #[.int .u64 (ww3 x), .int .u64 (ww2 x), .int .u64 (ww1 x), .int .u64 (ww0 x), .int .u64 (ww3 y), .int .u64 (ww2 y), .int .u64 (ww1 y), .int .u64 (ww0 y), .int .u64 (ww3 z), .int .u64 (ww2 z), .int .u64 (ww1 z), .int .u64 (ww0 z)] 40)).alloc (.cells #[.int .u64 (ww3 u), .int .u64 (ww2 u), .int .u64 (ww1 u), .int .u64 (ww0 u), .int .u64 (ww3 v), .int .u64 (ww2 v), .int .u64 (ww1 v), .int .u64 (ww0 v), .int .u64 (ww3 t), .int .u64 (ww2 t), .int .u64 (ww1 t), .int .u64 (ww0 t)] 40)).alloc (.cells #[.int .u64 (ww3 a), .int .u64 (ww2 a), .int .u64 (ww1 a), .int .u64 (ww0 a), .int .u64 (ww3 b), .int .u64 (ww2 b), .int .u64 (ww1 b), .int .u64 (ww0 b), .int .u64 (ww3 c), .int .u64 (ww2 c), .int .u64 (ww1 c), .int .u64 (ww0 c)] 40)) [[.int .u64 (ww3 x), .int .u64 (ww2 x), .int .u64 (ww1 x), .int .u64 (ww0 x), .int .u64 (ww3 y), .int .u64 (ww2 y), .int .u64 (ww1 y), .int .u64 (ww0 y), .int .u64 (ww3 z), .int .u64 (ww2 z), .int .u64 (ww1 z), .int .u64 (ww0 z)], [.int .u64 (ww3 u), .int .u64 (ww2 u), .int .u64 (ww1 u), .int .u64 (ww0 u), .int .u64 (ww3 v), .int .u64 (ww2 v), .int .u64 (ww1 v), .int .u64 (ww0 v), .int .u64 (ww3 t), .int .u64 (ww2 t), .int .u64 (ww1 t), .int .u64 (ww0 t)], [.int .u64 (ww3 a), .int .u64 (ww2 a), .int .u64 (ww1 a), .int .u64 (ww0 a), .int .u64 (ww3 b), .int .u64 (ww2 b), .int .u64 (ww1 b), .int .u64 (ww0 b), .int .u64 (ww3 c), .int .u64 (ww2 c), .int .u64 (ww1 c), .int .u64 (ww0 c)]] := ar3 _ _ _ _ _ _ w
  have C := corners_det x y z u v t a b c sx sy sz su sv st sa sb sc
  have E := signL_det (detJ x y z u v t a b c) (lr_abs (by have := det_abs sx sy sz su sv st sa sb sc; omega))
  have HO : Hid (turnJ x y z u v t a b c = cmpI (detJ x y z u v t a b c) 0) := rfl
  clear sx sy sz su sv st sa sb sc
  generalize detJ x y z u v t a b c = D at *
  have q := t3_cells3 T0
  go_enter Tryz.func94, Tryz.ntmps94
  go_upto_region 1 with fail
  generalize (((w.alloc (.cells #[.int .u64 (ww3 x), .int .u64 (ww2 x), .int .u64 (ww1 x), .int .u64 (ww0 x), .int .u64 (ww3 y), .int .u64 (ww2 y), .int .u64 (ww1 y), .int .u64 (ww0 y), .int .u64 (ww3 z), .int .u64 (ww2 z), .int .u64 (ww1 z), .int .u64 (ww0 z)] 40)).alloc (.cells #[.int .u64 (ww3 u), .int .u64 (ww2 u), .int .u64 (ww1 u), .int .u64 (ww0 u), .int .u64 (ww3 v), .int .u64 (ww2 v), .int .u64 (ww1 v), .int .u64 (ww0 v), .int .u64 (ww3 t), .int .u64 (ww2 t), .int .u64 (ww1 t), .int .u64 (ww0 t)] 40)).alloc (.cells #[.int .u64 (ww3 a), .int .u64 (ww2 a), .int .u64 (ww1 a), .int .u64 (ww0 a), .int .u64 (ww3 b), .int .u64 (ww2 b), .int .u64 (ww1 b), .int .u64 (ww0 b), .int .u64 (ww3 c), .int .u64 (ww2 c), .int .u64 (ww1 c), .int .u64 (ww0 c)] 40)) = W at *
  obtain ⟨q0, q1, q2, q3, q4, q5, q6, q7, q8, q9, q10, q11, q12, q13, q14, q15, q16, q17, q18, q19, q20, q21, q22, q23, q24, q25, q26, q27, q28, q29, q30, q31, q32, q33, q34, q35⟩ := q
  have HB := T0.below
  clear T0
  go_wp2_with fail
  refine (C _).mono ?_
  rintro e w1 ⟨rfl, hB⟩
  replace HB := HB.trans (hB.mono HB.size)
  clear hB q0 q1 q2 q3 q4 q5 q6 q7 q8 q9 q10 q11 q12 q13 q14 q15 q16 q17 q18 q19 q20 q21 q22 q23 q24 q25 q26 q27 q28 q29 q30 q31 q32 q33 q34 q35
  go_wp2_with fail
  refine (E _).mono ?_
  rintro e w2 ⟨rfl, hB⟩
  replace HB := HB.trans (hB.mono HB.size)
  clear hB
  go_wp2
  go_ret
  exact ⟨by rw [HO.out]; rfl, HB⟩
end Go.Proofs.YtpnnpkchogooaaaGreat

/- The turn of three points: both sides. -/
namespace Go.Proofs.YtpnnpkchogooaaaGreat
open Go.RowKit
theorem turn_same (x y z u v t a b c : Int) : turnJ x y z u v t a b c = turnI x y z u v t a b c := by
  unfold turnJ turnI
  congr 1
  grind
end Go.Proofs.YtpnnpkchogooaaaGreat

/- On which side of a segment a point lies: both sides. -/
namespace Go.Proofs.YtpnnpkchogooaaaGreat
open Go.RowKit
theorem in6_seg {a b c d : Int} (h : segOk a b c d = true) : (-1000000 ≤ a ∧ a ≤ 1000000) ∧ (-1000000 ≤ b ∧ b ≤ 1000000) ∧ (-1000000 ≤ c ∧ c ≤ 1000000) ∧ (-1000000 ≤ d ∧ d ≤ 1000000) := by
  unfold segOk spotOk at h
  simp at h
  omega
theorem ptB_spot {a b : Int} (ha : -1000000 ≤ a ∧ a ≤ 1000000) (hb : -1000000 ≤ b ∧ b ≤ 1000000) : ptB a b 1 = true := by
  unfold ptB
  have h1 : small 1 = true := by decide
  rw [small_int (x := a) (by omega) (by omega), small_int (x := b) (by omega) (by omega), h1]
  simp
end Go.Proofs.YtpnnpkchogooaaaGreat

/- What the walks of the laws over two numbers of four words share. -/
namespace Go.Proofs.YtpnnpkchogooaaaGreat
open Go.RowKit
/-- A number that was told lies in the block g, its flag beside it. -/
def LayP (z : Int) (w wx : World) (g : Nat) (x3 x2 x1 x0 : Int) (t : Bool) : Prop :=
  Wd wx g x3 x2 x1 x0 ∧ w.heap.size + 1 < g ∧ ∃ u v, TellP z u (.returned (.tuple #[.agg #[.int .u64 x3, .int .u64 x2, .int .u64 x1, .int .u64 x0], .bool t])) v
theorem LayP.step {z : Int} {w W W' : World} {g : Nat} {x3 x2 x1 x0 : Int} {t : Bool} (h : LayP z w W g x3 x2 x1 x0 t) (hb : Below W.heap.size W W') : LayP z w W' g x3 x2 x1 x0 t := ⟨h.1.step hb, h.2⟩
theorem LayP.alloc {z : Int} {w W : World} {g : Nat} {x3 x2 x1 x0 : Int} {t : Bool} (h : LayP z w W g x3 x2 x1 x0 t) (o : Obj) : LayP z w (W.alloc o) g x3 x2 x1 x0 t := ⟨h.1.alloc o, h.2⟩
theorem LayP.drew {z : Int} {w W : World} {g : Nat} {x3 x2 x1 x0 : Int} {t : Bool} (h : LayP z w W g x3 x2 x1 x0 t) : LayP z w W.drew g x3 x2 x1 x0 t := ⟨h.1.drew, h.2⟩
theorem LayP.set {z : Int} {w W : World} {g R : Nat} {x3 x2 x1 x0 : Int} {t : Bool} (h : LayP z w W g x3 x2 x1 x0 t) (hne : g ≠ R) (u0 u1 u2 u3 : Value) : LayP z w ((((W.setCell ⟨R, 0, none⟩ u0).setCell ⟨R, 1, none⟩ u1).setCell ⟨R, 2, none⟩ u2).setCell ⟨R, 3, none⟩ u3) g x3 x2 x1 x0 t := ⟨h.1.set hne _ _ _ _, h.2⟩
end Go.Proofs.YtpnnpkchogooaaaGreat

/- Fractions of two numbers: the program's, the model's; and when two fractions are one. -/
namespace Go.Proofs.YtpnnpkchogooaaaGreat
open Go.RowKit
/-- A fraction as it is told. -/
def rtV (n d : Int) : Value := if told n = true ∧ told d = true then .tuple #[Rt (ww3 n) (ww2 n) (ww1 n) (ww0 n) (ww3 d) (ww2 d) (ww1 d) (ww0 d), .bool true] else .tuple #[.agg #[.int .u64 0, .int .u64 0, .int .u64 0, .int .u64 0, .int .u64 0, .int .u64 0, .int .u64 0, .int .u64 0], .bool false]
theorem ratV_rt {x y : Int} (hy : y ≠ 0) : ratV x y = rtV (lowN x y) (lowD x y) := by
  unfold ratV rtV
  by_cases h : told (lowN x y) = true ∧ told (lowD x y) = true
  · rw [if_pos ⟨hy, h⟩, if_pos h]
  · rw [if_neg (fun h' => h h'.2), if_neg h]
theorem ratV_ex (x y : Int) : ∃ z0 z1 z2 z3 z4 z5 z6 z7 : Int, ∃ t : Bool, ratV x y = .tuple #[.agg #[.int .u64 z0, .int .u64 z1, .int .u64 z2, .int .u64 z3, .int .u64 z4, .int .u64 z5, .int .u64 z6, .int .u64 z7], .bool t] := by
  unfold ratV
  split
  · exact ⟨_, _, _, _, _, _, _, _, _, rfl⟩
  · exact ⟨_, _, _, _, _, _, _, _, _, rfl⟩
theorem lr_args (s1 : Bool) (o1 : Option Addr) (n1 c1 : Nat) (s2 : Bool) (o2 : Option Addr) (n2 c2 : Nat) (w : World) : ArgsB w ((w.alloc (.cells #[.bool s1, .slice o1 n1 c1, .bool s2, .slice o2 n2 c2] 75)).alloc (.cells #[.int .u64 0, .int .u64 0, .int .u64 0, .int .u64 0, .int .u64 0, .int .u64 0, .int .u64 0, .int .u64 0] 34)) [[.bool s1, .slice o1 n1 c1, .bool s2, .slice o2 n2 c2], [.int .u64 0, .int .u64 0, .int .u64 0, .int .u64 0, .int .u64 0, .int .u64 0, .int .u64 0, .int .u64 0]] := by
  refine ⟨((Below.refl _ _).alloc (Nat.le_refl _) _).alloc (by simp) _, fun j vs hj => ?_⟩
  match j, hj with
  | 0, hj => cases hj; exact (Blk.new w [.bool s1, .slice o1 n1 c1, .bool s2, .slice o2 n2 c2] 75 rfl).alloc _
  | 1, hj => cases hj; exact Blk.new (w.alloc (.cells #[.bool s1, .slice o1 n1 c1, .bool s2, .slice o2 n2 c2] 75)) [.int .u64 0, .int .u64 0, .int .u64 0, .int .u64 0, .int .u64 0, .int .u64 0, .int .u64 0, .int .u64 0] 34 (by simp)
  | j + 2, hj => simp at hj
set_option maxRecDepth 100000 in
set_option maxHeartbeats 2000000 in
theorem l2Ratio_any (s1 : Bool) (o1 : Option Addr) (n1 c1 : Nat) (d1 : List Int) (s2 : Bool) (o2 : Option Addr) (n2 c2 : Nat) (d2 : List Int) (x y : Int) (k : Nat) (hk : k ≤ 8000) (w : World) (N1 : IsNum w s1 o1 n1 c1 d1 x k) (N2 : IsNum w s2 o2 n2 c2 d2 y k) :
    Calls Tryz.prog 36 #[.agg #[.bool s1, .slice o1 n1 c1, .bool s2, .slice o2 n2 c2]] w (VP (rtV x y) w) := by
  have T0 := lr_args s1 o1 n1 c1 s2 o2 n2 c2 w
  replace N1 := N1.step T0.below
  replace N2 := N2.step T0.below
  obtain ⟨e3, e2, e1, e0, HT1, HC1⟩ := tellV_ex x
  obtain ⟨f3, f2, f1, f0, HT2, HC2⟩ := tellV_ex y
  obtain ⟨t1, ht1⟩ : ∃ t, told x = t := ⟨_, rfl⟩
  obtain ⟨t2, ht2⟩ : ∃ t, told y = t := ⟨_, rfl⟩
  have HR : Hid (rtV x y = if t1 = true ∧ t2 = true then .tuple #[.agg #[.int .u64 e3, .int .u64 e2, .int .u64 e1, .int .u64 e0, .int .u64 f3, .int .u64 f2, .int .u64 f1, .int .u64 f0], .bool true] else .tuple #[.agg #[.int .u64 0, .int .u64 0, .int .u64 0, .int .u64 0, .int .u64 0, .int .u64 0, .int .u64 0, .int .u64 0], .bool false]) := by
    show _ = _
    unfold rtV
    rw [ht1, ht2]
    by_cases h1 : t1 = true
    · by_cases h2 : t2 = true
      · have g1 := HC1 (ht1.trans h1)
        have g2 := HC2 (ht2.trans h2)
        simp only [Value.agg.injEq] at g1 g2
        simp at g1 g2
        rw [if_pos ⟨h1, h2⟩, if_pos ⟨h1, h2⟩, g1.1, g1.2.1, g1.2.2.1, g1.2.2.2, g2.1, g2.2.1, g2.2.2.1, g2.2.2.2]
      · rw [if_neg (by rintro ⟨_, h⟩; exact h2 h), if_neg (by rintro ⟨_, h⟩; exact h2 h)]
    · rw [if_neg (by rintro ⟨h, _⟩; exact h1 h), if_neg (by rintro ⟨h, _⟩; exact h1 h)]
  rw [ht1] at HT1
  rw [ht2] at HT2
  clear ht1 ht2 HC1 HC2
  go_enter Tryz.func36, Tryz.ntmps36
  go_upto_region 1 with fail
  generalize ((w.alloc (.cells #[.bool s1, .slice o1 n1 c1, .bool s2, .slice o2 n2 c2] 75)).alloc (.cells #[.int .u64 0, .int .u64 0, .int .u64 0, .int .u64 0, .int .u64 0, .int .u64 0, .int .u64 0, .int .u64 0] 34)) = W at *
  have x0c := (T0.b 0 rfl).c 0 rfl; have x1c := (T0.b 0 rfl).c 1 rfl; have x2c := (T0.b 0 rfl).c 2 rfl; have x3c := (T0.b 0 rfl).c 3 rfl
  simp only [Nat.add_zero] at x0c x1c x2c x3c
  go_wp2_with fail
  refine (toW_det s1 o1 n1 c1 d1 _ _ _ N1 (by omega)).mono ?_
  rw [HT1]
  rintro e w1 ⟨rfl, hB⟩
  replace T0 := T0.step hB; replace N2 := N2.step hB
  clear hB N1 HT1 x0c x1c x2c x3c
  have hl1 := (T0.b 1 rfl).lt
  go_upto_region 2 with fail
  have X1 := Blk.new w1 [.int .u64 e3, .int .u64 e2, .int .u64 e1, .int .u64 e0] 32 rfl
  replace T0 := T0.alloc (.cells #[.int .u64 e3, .int .u64 e2, .int .u64 e1, .int .u64 e0] 32)
  replace N2 := N2.alloc (.cells #[.int .u64 e3, .int .u64 e2, .int .u64 e1, .int .u64 e0] 32)
  generalize w1.alloc (.cells #[.int .u64 e3, .int .u64 e2, .int .u64 e1, .int .u64 e0] 32) = W2 at *
  generalize w1.heap.size = g1 at *
  have x0c := (T0.b 0 rfl).c 0 rfl; have x1c := (T0.b 0 rfl).c 1 rfl; have x2c := (T0.b 0 rfl).c 2 rfl; have x3c := (T0.b 0 rfl).c 3 rfl
  simp only [Nat.add_zero] at x0c x1c x2c x3c
  go_wp2_with fail
  refine (toW_det s2 o2 n2 c2 d2 _ _ _ N2 (by omega)).mono ?_
  rw [HT2]
  rintro e w3 ⟨rfl, hB⟩
  replace T0 := T0.step hB; replace X1 := X1.step hB
  clear hB N2 HT2 x0c x1c x2c x3c
  have hl3 := (T0.b 1 rfl).lt
  have hx1 := X1.lt
  go_upto_region 3 with fail
  have X2 := Blk.new w3 [.int .u64 f3, .int .u64 f2, .int .u64 f1, .int .u64 f0] 32 rfl
  replace T0 := T0.alloc (.cells #[.int .u64 f3, .int .u64 f2, .int .u64 f1, .int .u64 f0] 32)
  replace X1 := X1.alloc (.cells #[.int .u64 f3, .int .u64 f2, .int .u64 f1, .int .u64 f0] 32)
  generalize w3.alloc (.cells #[.int .u64 f3, .int .u64 f2, .int .u64 f1, .int .u64 f0] 32) = W4' at *
  generalize w3.heap.size = g2 at *
  have R0 := T0.b 1 rfl
  by_cases ht : t1 = true ∧ t2 = true
  · obtain ⟨rfl, rfl⟩ := ht
    have HV : Hid (rtV x y = .tuple #[.agg #[.int .u64 e3, .int .u64 e2, .int .u64 e1, .int .u64 e0, .int .u64 f3, .int .u64 f2, .int .u64 f1, .int .u64 f0], .bool true]) := by show _ = _; rw [HR.out]; simp
    have HB := T0.below
    have o0c := R0.c 0 rfl; have o0f := R0.f 0 rfl; have o1c := R0.c 1 rfl; have o1f := R0.f 1 rfl; have o2c := R0.c 2 rfl; have o2f := R0.f 2 rfl; have o3c := R0.c 3 rfl; have o3f := R0.f 3 rfl; have o4c := R0.c 4 rfl; have o4f := R0.f 4 rfl; have o5c := R0.c 5 rfl; have o5f := R0.f 5 rfl; have o6c := R0.c 6 rfl; have o6f := R0.f 6 rfl; have o7c := R0.c 7 rfl; have o7f := R0.f 7 rfl
    have p0c := X1.c 0 rfl; have p1c := X1.c 1 rfl; have p2c := X1.c 2 rfl; have p3c := X1.c 3 rfl
    have q0c := X2.c 0 rfl; have q1c := X2.c 1 rfl; have q2c := X2.c 2 rfl; have q3c := X2.c 3 rfl
    go_wp2
    refine bodyPost_ret (v := .tuple #[.agg #[.int .u64 e3, .int .u64 e2, .int .u64 e1, .int .u64 e0, .int .u64 f3, .int .u64 f2, .int .u64 f1, .int .u64 f0], .bool true]) (by simp [results, Tryz.results36, go_sem, o0c, o1c, o2c, o3c, o4c, o5c, o6c, o7c]) rfl ?_
    refine ⟨by rw [HV.out], ?_⟩
    repeat' (refine Below.setCell ?_ (by simp; try omega) _)
    exact HB
  · have HV : Hid (rtV x y = .tuple #[.agg #[.int .u64 0, .int .u64 0, .int .u64 0, .int .u64 0, .int .u64 0, .int .u64 0, .int .u64 0, .int .u64 0], .bool false]) := by show _ = _; rw [HR.out, if_neg ht]
    cases t1
    · have tok : True := trivial
      have HB := T0.below
      have o0c := R0.c 0 rfl; have o0f := R0.f 0 rfl; have o1c := R0.c 1 rfl; have o1f := R0.f 1 rfl; have o2c := R0.c 2 rfl; have o2f := R0.f 2 rfl; have o3c := R0.c 3 rfl; have o3f := R0.f 3 rfl; have o4c := R0.c 4 rfl; have o4f := R0.f 4 rfl; have o5c := R0.c 5 rfl; have o5f := R0.f 5 rfl; have o6c := R0.c 6 rfl; have o6f := R0.f 6 rfl; have o7c := R0.c 7 rfl; have o7f := R0.f 7 rfl
      go_wp2
      refine bodyPost_ret (v := .tuple #[.agg #[.int .u64 0, .int .u64 0, .int .u64 0, .int .u64 0, .int .u64 0, .int .u64 0, .int .u64 0, .int .u64 0], .bool false]) (by simp [results, Tryz.results36, go_sem, o0c, o1c, o2c, o3c, o4c, o5c, o6c, o7c]) rfl ?_
      refine ⟨by rw [HV.out], ?_⟩
      repeat' (refine Below.setCell ?_ (by simp; try omega) _)
      exact HB
    · cases t2
      · have tok : True := trivial
        have HB := T0.below
        have o0c := R0.c 0 rfl; have o0f := R0.f 0 rfl; have o1c := R0.c 1 rfl; have o1f := R0.f 1 rfl; have o2c := R0.c 2 rfl; have o2f := R0.f 2 rfl; have o3c := R0.c 3 rfl; have o3f := R0.f 3 rfl; have o4c := R0.c 4 rfl; have o4f := R0.f 4 rfl; have o5c := R0.c 5 rfl; have o5f := R0.f 5 rfl; have o6c := R0.c 6 rfl; have o6f := R0.f 6 rfl; have o7c := R0.c 7 rfl; have o7f := R0.f 7 rfl
        go_wp2
        refine bodyPost_ret (v := .tuple #[.agg #[.int .u64 0, .int .u64 0, .int .u64 0, .int .u64 0, .int .u64 0, .int .u64 0, .int .u64 0, .int .u64 0], .bool false]) (by simp [results, Tryz.results36, go_sem, o0c, o1c, o2c, o3c, o4c, o5c, o6c, o7c]) rfl ?_
        refine ⟨by rw [HV.out], ?_⟩
        repeat' (refine Below.setCell ?_ (by simp; try omega) _)
        exact HB
      · exact absurd ⟨rfl, rfl⟩ ht
theorem ro_args (a3 a2 a1 a0 b3 b2 b1 b0 : Int) (w : World) : ArgsB w (((w.alloc (.cells #[.int .u64 a3, .int .u64 a2, .int .u64 a1, .int .u64 a0] 32)).alloc (.cells #[.int .u64 b3, .int .u64 b2, .int .u64 b1, .int .u64 b0] 32)).alloc (.cells #[.int .u64 0, .int .u64 0, .int .u64 0, .int .u64 0, .int .u64 0, .int .u64 0, .int .u64 0, .int .u64 0] 34)) [[.int .u64 a3, .int .u64 a2, .int .u64 a1, .int .u64 a0], [.int .u64 b3, .int .u64 b2, .int .u64 b1, .int .u64 b0]] := by
  refine ⟨(((Below.refl _ _).alloc (Nat.le_refl _) _).alloc (by simp) _).alloc (by simp; omega) _, fun j vs hj => ?_⟩
  match j, hj with
  | 0, hj => cases hj; exact ((Blk.new w [.int .u64 a3, .int .u64 a2, .int .u64 a1, .int .u64 a0] 32 rfl).alloc _).alloc _
  | 1, hj => cases hj; exact (Blk.new (w.alloc (.cells #[.int .u64 a3, .int .u64 a2, .int .u64 a1, .int .u64 a0] 32)) [.int .u64 b3, .int .u64 b2, .int .u64 b1, .int .u64 b0] 32 (by simp)).alloc _
  | j + 2, hj => simp at hj
theorem buildF (x0 x1 x2 x3 x4 x5 x6 x7 y0 y1 y2 y3 y4 y5 y6 y7 : Int) (w : World) : (Instr.build 82 #[(0, L8 x0 x1 x2 x3 x4 x5 x6 x7), (1, L8 y0 y1 y2 y3 y4 y5 y6 y7)]).run Tryz.prog w = .ok (.agg #[.int .u64 x0, .int .u64 x1, .int .u64 x2, .int .u64 x3, .int .u64 x4, .int .u64 x5, .int .u64 x6, .int .u64 x7, .int .u64 y0, .int .u64 y1, .int .u64 y2, .int .u64 y3, .int .u64 y4, .int .u64 y5, .int .u64 y6, .int .u64 y7]) w := run_build w _ _ _ (by kernel_rfl)
theorem sl_long {a3 a2 a1 a0 : Int} (h3 : Word a3) (h2 : Word a2) (h1 : Word a1) (h0 : Word a0) : -6703903964971298549787012499102923063739682910296196688861780721860882015036773488400937149083451713845015929093243025426876941405973284973216824503042048 < sl a0 a1 a2 a3 (fillW a3) (fillW a3) (fillW a3) (fillW a3) := by
  rw [sl_fill]
  have := sw_size h3 h2 h1 h0
  omega
set_option maxRecDepth 100000 in
set_option maxHeartbeats 4000000 in
theorem implRatioOf_any (a3 a2 a1 a0 b3 b2 b1 b0 : Int) (ha3 : Word a3) (ha2 : Word a2) (ha1 : Word a1) (ha0 : Word a0) (hb3 : Word b3) (hb2 : Word b2) (hb1 : Word b1) (hb0 : Word b0) (w : World) : Calls Tryz.prog 29 #[.agg #[.int .u64 a3, .int .u64 a2, .int .u64 a1, .int .u64 a0], .agg #[.int .u64 b3, .int .u64 b2, .int .u64 b1, .int .u64 b0]] w (VP (ratV (sw a3 a2 a1 a0) (sw b3 b2 b1 b0)) w) := by
  have T0 := ro_args a3 a2 a1 a0 b3 b2 b1 b0 w
  have R0 : Blk (((w.alloc (.cells #[.int .u64 a3, .int .u64 a2, .int .u64 a1, .int .u64 a0] 32)).alloc (.cells #[.int .u64 b3, .int .u64 b2, .int .u64 b1, .int .u64 b0] 32)).alloc (.cells #[.int .u64 0, .int .u64 0, .int .u64 0, .int .u64 0, .int .u64 0, .int .u64 0, .int .u64 0, .int .u64 0] 34)) (w.heap.size + 1 + 1) [.int .u64 0, .int .u64 0, .int .u64 0, .int .u64 0, .int .u64 0, .int .u64 0, .int .u64 0, .int .u64 0] := Blk.new _ [.int .u64 0, .int .u64 0, .int .u64 0, .int .u64 0, .int .u64 0, .int .u64 0, .int .u64 0, .int .u64 0] _ (by simp)
  have LA := longOf_any a3 a2 a1 a0 ha3
  have LB := longOf_any b3 b2 b1 b0 hb3
  have LW := lowest_any a0 a1 a2 a3 (fillW a3) (fillW a3) (fillW a3) (fillW a3) b0 b1 b2 b3 (fillW b3) (fillW b3) (fillW b3) (fillW b3) (words_fill ha3 ha2 ha1 ha0) (words_fill hb3 hb2 hb1 hb0) (sl_long ha3 ha2 ha1 ha0) (sl_long hb3 hb2 hb1 hb0)
  rw [sl_fill, sl_fill] at LW
  have BF := buildF a0 a1 a2 a3 (fillW a3) (fillW a3) (fillW a3) (fillW a3) b0 b1 b2 b3 (fillW b3) (fillW b3) (fillW b3) (fillW b3)
  obtain ⟨z0, z1, z2, z3, z4, z5, z6, z7, t, hz⟩ := ratV_ex (sw a3 a2 a1 a0) (sw b3 b2 b1 b0)
  rw [hz] at LW
  have HV : Hid (ratV (sw a3 a2 a1 a0) (sw b3 b2 b1 b0) = .tuple #[.agg #[.int .u64 z0, .int .u64 z1, .int .u64 z2, .int .u64 z3, .int .u64 z4, .int .u64 z5, .int .u64 z6, .int .u64 z7], .bool t]) := hz
  clear hz
  generalize fillW a3 = fa at *
  generalize fillW b3 = fb at *
  go_enter Tryz.func29, Tryz.ntmps29
  go_upto_region 1 with fail
  generalize (((w.alloc (.cells #[.int .u64 a3, .int .u64 a2, .int .u64 a1, .int .u64 a0] 32)).alloc (.cells #[.int .u64 b3, .int .u64 b2, .int .u64 b1, .int .u64 b0] 32)).alloc (.cells #[.int .u64 0, .int .u64 0, .int .u64 0, .int .u64 0, .int .u64 0, .int .u64 0, .int .u64 0, .int .u64 0] 34)) = W at *
  have hlw := (T0.b 1 rfl).lt
  have hlr := R0.lt
  have tok1 : True := trivial
  replace T0 := T0.drew
  have x0c := (T0.b 0 rfl).c 0 rfl; have x1c := (T0.b 0 rfl).c 1 rfl; have x2c := (T0.b 0 rfl).c 2 rfl; have x3c := (T0.b 0 rfl).c 3 rfl; have y0c := (T0.b 1 rfl).c 0 rfl; have y1c := (T0.b 1 rfl).c 1 rfl; have y2c := (T0.b 1 rfl).c 2 rfl; have y3c := (T0.b 1 rfl).c 3 rfl; have o0c := R0.c 0 rfl; have o0f := R0.f 0 rfl; have o1c := R0.c 1 rfl; have o1f := R0.f 1 rfl; have o2c := R0.c 2 rfl; have o2f := R0.f 2 rfl; have o3c := R0.c 3 rfl; have o3f := R0.f 3 rfl; have o4c := R0.c 4 rfl; have o4f := R0.f 4 rfl; have o5c := R0.c 5 rfl; have o5f := R0.f 5 rfl; have o6c := R0.c 6 rfl; have o6f := R0.f 6 rfl; have o7c := R0.c 7 rfl; have o7f := R0.f 7 rfl; have olt := R0.lt; simp only [Nat.add_zero] at x0c x1c x2c x3c
  go_region_with ((first
      | (go_at_call 58; have _t := tok1; refine (LA _).mono ?_; rintro e w1 ⟨rfl, hB⟩; replace T0 := T0.step hB; replace R0 := R0.drew.step hB; clear hB tok1 _t x0c x1c x2c x3c y0c y1c y2c y3c o0c o0f o1c o1f o2c o2f o3c o3f o4c o4f o5c o5f o6c o6f o7c o7f olt; have x0c := (T0.b 0 rfl).c 0 rfl; have x1c := (T0.b 0 rfl).c 1 rfl; have x2c := (T0.b 0 rfl).c 2 rfl; have x3c := (T0.b 0 rfl).c 3 rfl; have y0c := (T0.b 1 rfl).c 0 rfl; have y1c := (T0.b 1 rfl).c 1 rfl; have y2c := (T0.b 1 rfl).c 2 rfl; have y3c := (T0.b 1 rfl).c 3 rfl; have o0c := R0.c 0 rfl; have o0f := R0.f 0 rfl; have o1c := R0.c 1 rfl; have o1f := R0.f 1 rfl; have o2c := R0.c 2 rfl; have o2f := R0.f 2 rfl; have o3c := R0.c 3 rfl; have o3f := R0.f 3 rfl; have o4c := R0.c 4 rfl; have o4f := R0.f 4 rfl; have o5c := R0.c 5 rfl; have o5f := R0.f 5 rfl; have o6c := R0.c 6 rfl; have o6f := R0.f 6 rfl; have o7c := R0.c 7 rfl; have o7f := R0.f 7 rfl; have olt := R0.lt; simp only [Nat.add_zero] at x0c x1c x2c x3c)
      | (go_at_call 58; refine (LB _).mono ?_; rintro e w2 ⟨rfl, hB⟩; replace T0 := T0.step hB; replace R0 := R0.step hB; clear hB x0c x1c x2c x3c y0c y1c y2c y3c o0c o0f o1c o1f o2c o2f o3c o3f o4c o4f o5c o5f o6c o6f o7c o7f olt; have x0c := (T0.b 0 rfl).c 0 rfl; have x1c := (T0.b 0 rfl).c 1 rfl; have x2c := (T0.b 0 rfl).c 2 rfl; have x3c := (T0.b 0 rfl).c 3 rfl; have y0c := (T0.b 1 rfl).c 0 rfl; have y1c := (T0.b 1 rfl).c 1 rfl; have y2c := (T0.b 1 rfl).c 2 rfl; have y3c := (T0.b 1 rfl).c 3 rfl; have o0c := R0.c 0 rfl; have o0f := R0.f 0 rfl; have o1c := R0.c 1 rfl; have o1f := R0.f 1 rfl; have o2c := R0.c 2 rfl; have o2f := R0.f 2 rfl; have o3c := R0.c 3 rfl; have o3f := R0.f 3 rfl; have o4c := R0.c 4 rfl; have o4f := R0.f 4 rfl; have o5c := R0.c 5 rfl; have o5f := R0.f 5 rfl; have o6c := R0.c 6 rfl; have o6f := R0.f 6 rfl; have o7c := R0.c 7 rfl; have o7f := R0.f 7 rfl; have olt := R0.lt; simp only [Nat.add_zero] at x0c x1c x2c x3c)
      | (go_at_call 44; refine (LW _).mono ?_; rintro e w3 ⟨rfl, hB⟩; replace T0 := T0.step hB; replace R0 := R0.step hB; clear hB x0c x1c x2c x3c y0c y1c y2c y3c o0c o0f o1c o1f o2c o2f o3c o3f o4c o4f o5c o5f o6c o6f o7c o7f olt; have x0c := (T0.b 0 rfl).c 0 rfl; have x1c := (T0.b 0 rfl).c 1 rfl; have x2c := (T0.b 0 rfl).c 2 rfl; have x3c := (T0.b 0 rfl).c 3 rfl; have y0c := (T0.b 1 rfl).c 0 rfl; have y1c := (T0.b 1 rfl).c 1 rfl; have y2c := (T0.b 1 rfl).c 2 rfl; have y3c := (T0.b 1 rfl).c 3 rfl; have o0c := R0.c 0 rfl; have o0f := R0.f 0 rfl; have o1c := R0.c 1 rfl; have o1f := R0.f 1 rfl; have o2c := R0.c 2 rfl; have o2f := R0.f 2 rfl; have o3c := R0.c 3 rfl; have o3f := R0.f 3 rfl; have o4c := R0.c 4 rfl; have o4f := R0.f 4 rfl; have o5c := R0.c 5 rfl; have o5f := R0.f 5 rfl; have o6c := R0.c 6 rfl; have o6f := R0.f 6 rfl; have o7c := R0.c 7 rfl; have o7f := R0.f 7 rfl; have olt := R0.lt; simp only [Nat.add_zero] at x0c x1c x2c x3c)))
  all_goals have HB := T0.below
  all_goals clear T0
  all_goals go_wp2
  all_goals refine bodyPost_ret (v := .tuple #[.agg #[.int .u64 z0, .int .u64 z1, .int .u64 z2, .int .u64 z3, .int .u64 z4, .int .u64 z5, .int .u64 z6, .int .u64 z7], .bool t]) (by simp [results, Tryz.results29, go_sem, o0c, o1c, o2c, o3c, o4c, o5c, o6c, o7c]) rfl ?_
  all_goals refine ⟨by rw [HV.out], ?_⟩
  all_goals (try (with_reducible refine Below.drew ?_))
  all_goals repeat' (refine Below.setCell ?_ (by simp; try omega) _)
  all_goals exact HB
end Go.Proofs.YtpnnpkchogooaaaGreat

/- Differences of spots, their products: the program's walks. -/
namespace Go.Proofs.YtpnnpkchogooaaaGreat
open Go.RowKit
abbrev In2 (x : Int) : Prop := -2000000 ≤ x ∧ x ≤ 2000000
abbrev In1 (x : Int) : Prop := -1000000 ≤ x ∧ x ≤ 1000000
theorem mul_in {p q M N : Int} (h1 : -M ≤ p) (h2 : p ≤ M) (h3 : -N ≤ q) (h4 : q ≤ N) : -(M * N) ≤ p * q ∧ p * q ≤ M * N := by
  have hM : 0 ≤ M := by omega
  have hN : 0 ≤ N := by omega
  have a1 : 0 ≤ (M - p) * (N - q) := Int.mul_nonneg (by omega) (by omega)
  have a2 : 0 ≤ (M + p) * (N + q) := Int.mul_nonneg (by omega) (by omega)
  have a3 : 0 ≤ (M - p) * (N + q) := Int.mul_nonneg (by omega) (by omega)
  have a4 : 0 ≤ (M + p) * (N - q) := Int.mul_nonneg (by omega) (by omega)
  constructor <;> grind
theorem prod2 {p q : Int} (hp : In2 p) (hq : In2 q) : -4000000000000 ≤ p * q ∧ p * q ≤ 4000000000000 := mul_in (M := 2000000) (N := 2000000) hp.1 hp.2 hq.1 hq.2
theorem minusS_det (x y u v : Int) (hx : In1 x) (hy : In1 y) (hu : In1 u) (hv : In1 v) (w : World) : Calls Tryz.prog 27 #[Sp x y, Sp u v] w (VP (Sp (x - u) (y - v)) w) := by
  obtain ⟨x1, x2⟩ := hx; obtain ⟨y1, y2⟩ := hy; obtain ⟨u1, u2⟩ := hu; obtain ⟨v1, v2⟩ := hv
  go_enter Tryz.func27, Tryz.ntmps27
  go_wp2
  refine bodyPost_ret (v := Sp (x - u) (y - v)) (by simp [results, Tryz.results27, go_sem]) rfl ?_
  exact ⟨rfl, (((Below.refl _ _).alloc (Nat.le_refl _) _).alloc (by simp) _).alloc (by simp; omega) _⟩
theorem cross_det (x y u v : Int) (hx : In2 x) (hy : In2 y) (hu : In2 u) (hv : In2 v) (w : World) : Calls Tryz.prog 31 #[Sp x y, Sp u v] w (VP (.int .i64 (x * v - y * u)) w) := by
  obtain ⟨p1, p2⟩ := prod2 hx hv; obtain ⟨q1, q2⟩ := prod2 hy hu
  clear hx hy hu hv
  go_enter Tryz.func31, Tryz.ntmps31
  go_wp2
  go_ret
  exact ⟨rfl, ((Below.refl _ _).alloc (Nat.le_refl _) _).alloc (by simp) _⟩
theorem dot_det (x y u v : Int) (hx : In2 x) (hy : In2 y) (hu : In2 u) (hv : In2 v) (w : World) : Calls Tryz.prog 28 #[Sp x y, Sp u v] w (VP (.int .i64 (x * u + y * v)) w) := by
  obtain ⟨p1, p2⟩ := prod2 hx hu; obtain ⟨q1, q2⟩ := prod2 hy hv
  clear hx hy hu hv
  go_enter Tryz.func28, Tryz.ntmps28
  go_wp2
  go_ret
  exact ⟨rfl, ((Below.refl _ _).alloc (Nat.le_refl _) _).alloc (by simp) _⟩
theorem implRatioOf_det (x y : Int) (hx : told x = true) (hy : told y = true) (w : World) : Calls Tryz.prog 29 #[W4 x, W4 y] w (VP (ratV x y) w) := by
  obtain ⟨a3, a2, a1, a0⟩ := ww_words x
  obtain ⟨b3, b2, b1, b0⟩ := ww_words y
  have h := implRatioOf_any (ww3 x) (ww2 x) (ww1 x) (ww0 x) (ww3 y) (ww2 y) (ww1 y) (ww0 y) a3 a2 a1 a0 b3 b2 b1 b0 w
  rw [ww_sw hx, ww_sw hy] at h
  exact h
/-- Two rows of two values, each in a block of its own. -/
def CutG (w wx : World) (vss : List (List Value)) (us vs : List Value) (p q : Value) : Prop :=
  ∃ g g', p = .pointer (some ⟨g, 0, none⟩) ∧ q = .pointer (some ⟨g', 0, none⟩) ∧ g ≠ g' ∧ w.heap.size + vss.length ≤ g ∧ w.heap.size + vss.length ≤ g' ∧ ArgsB w wx vss ∧ Blk wx g us ∧ Blk wx g' vs
theorem cutG_nn {w X : World} {vss : List (List Value)} {us vs : List Value} {T T' : TypeId} (h : ArgsB w X vss) (hl : w.heap.size + vss.length ≤ X.heap.size) : CutG w ((X.alloc (.cells us.toArray T)).alloc (.cells vs.toArray T')) vss us vs (.pointer (some ⟨X.heap.size, 0, none⟩)) (.pointer (some ⟨X.heap.size + 1, 0, none⟩)) :=
  ⟨_, _, rfl, rfl, by omega, hl, by omega, (h.alloc _).alloc _, (Blk.new X us T rfl).alloc _, Blk.new _ vs T' (by simp)⟩
theorem cutG_nn' {w X : World} {vss : List (List Value)} {us vs : List Value} {T T' : TypeId} (h : ArgsB w X vss) (hl : w.heap.size + vss.length ≤ X.heap.size) : CutG w ((X.alloc (.cells vs.toArray T)).alloc (.cells us.toArray T')) vss us vs (.pointer (some ⟨X.heap.size + 1, 0, none⟩)) (.pointer (some ⟨X.heap.size, 0, none⟩)) :=
  ⟨_, _, rfl, rfl, by omega, by omega, hl, (h.alloc _).alloc _, Blk.new _ us T' (by simp), (Blk.new X vs T rfl).alloc _⟩
theorem cutG_sn {w X : World} {vss : List (List Value)} {v0 v1 z0 z1 : Value} {vs : List Value} {T : TypeId} {g : Nat} (h : ArgsB w X vss) (G : Blk X g [z0, z1]) (hg : w.heap.size + vss.length ≤ g) (hl : w.heap.size + vss.length ≤ X.heap.size) : CutG w (((X.setCell ⟨g, 0, none⟩ v0).setCell ⟨g, 1, none⟩ v1).alloc (.cells vs.toArray T)) vss [v0, v1] vs (.pointer (some ⟨g, 0, none⟩)) (.pointer (some ⟨X.heap.size, 0, none⟩)) :=
  ⟨_, _, rfl, rfl, by have := G.lt; omega, hg, hl, (h.set2 hg _ _).alloc _, (G.stored2 _ _).alloc _, Blk.new _ vs T (by simp)⟩
theorem cutG_sn' {w X : World} {vss : List (List Value)} {v0 v1 z0 z1 : Value} {us : List Value} {T : TypeId} {g : Nat} (h : ArgsB w X vss) (G : Blk X g [z0, z1]) (hg : w.heap.size + vss.length ≤ g) (hl : w.heap.size + vss.length ≤ X.heap.size) : CutG w (((X.setCell ⟨g, 0, none⟩ v0).setCell ⟨g, 1, none⟩ v1).alloc (.cells us.toArray T)) vss us [v0, v1] (.pointer (some ⟨X.heap.size, 0, none⟩)) (.pointer (some ⟨g, 0, none⟩)) :=
  ⟨_, _, rfl, rfl, by have := G.lt; omega, hl, hg, (h.set2 hg _ _).alloc _, Blk.new _ us T (by simp), (G.stored2 _ _).alloc _⟩
theorem cutG_ss {w X : World} {vss : List (List Value)} {v0 v1 u0 u1 z0 z1 y0 y1 : Value} {g g' : Nat} (h : ArgsB w X vss) (G : Blk X g [z0, z1]) (G' : Blk X g' [y0, y1]) (hg : w.heap.size + vss.length ≤ g) (hg' : w.heap.size + vss.length ≤ g') (hne : g ≠ g') :
    CutG w ((((X.setCell ⟨g, 0, none⟩ v0).setCell ⟨g, 1, none⟩ v1).setCell ⟨g', 0, none⟩ u0).setCell ⟨g', 1, none⟩ u1) vss [v0, v1] [u0, u1] (.pointer (some ⟨g, 0, none⟩)) (.pointer (some ⟨g', 0, none⟩)) :=
  ⟨_, _, rfl, rfl, hne, hg, hg', (h.set2 hg _ _).set2 hg' _ _, (G.stored2 _ _).set2 hne, (G'.set2 (fun e => hne e.symm)).stored2 _ _⟩
/-- The square of the distance of a spot and a segment, both right. -/
def nearW (a b c d x y : Int) : Value :=
  if (x - a) * (c - a) + (y - b) * (d - b) ≤ 0 then ratV ((x - a) * (x - a) + (y - b) * (y - b)) 1
  else if (x - c) * (c - a) + (y - d) * (d - b) ≥ 0 then ratV ((x - c) * (x - c) + (y - d) * (y - d)) 1
  else ratV (((c - a) * (y - b) - (d - b) * (x - a)) * ((c - a) * (y - b) - (d - b) * (x - a))) ((c - a) * (c - a) + (d - b) * (d - b))
/-- The square of the distance of a spot and a segment, and true; where one is not right: zeros, and false. -/
def nearV (a b c d x y : Int) : Value := if segOk a b c d && spotOk x y then nearW a b c d x y else .tuple #[.agg #[.int .u64 0, .int .u64 0, .int .u64 0, .int .u64 0, .int .u64 0, .int .u64 0, .int .u64 0, .int .u64 0], .bool false]
theorem nearW_ex (a b c d x y : Int) : ∃ z0 z1 z2 z3 z4 z5 z6 z7 f, nearW a b c d x y = .tuple #[.agg #[.int .u64 z0, .int .u64 z1, .int .u64 z2, .int .u64 z3, .int .u64 z4, .int .u64 z5, .int .u64 z6, .int .u64 z7], .bool f] := by
  unfold nearW
  split
  · exact ratV_ex _ _
  · split <;> exact ratV_ex _ _
theorem in1_spot {x y : Int} (h : spotOk x y = true) : In1 x ∧ In1 y := by
  unfold spotOk at h
  simp at h
  omega
theorem told_big {x : Int} (h : -1000000000000000000000000000000 ≤ x ∧ x ≤ 1000000000000000000000000000000) : told x = true := told_of (by omega)
theorem nr_cells {a b c d x y : Int} {w W : World} (T0 : ArgsB w W [[.int .i64 a, .int .i64 b, .int .i64 c, .int .i64 d], [.int .i64 x, .int .i64 y], [.int .u64 0, .int .u64 0, .int .u64 0, .int .u64 0, .int .u64 0, .int .u64 0, .int .u64 0, .int .u64 0]]) : (fun w' => w'.cell? ⟨w.heap.size, 0, none⟩ = some (.int .i64 a) ∧ w'.cell? ⟨w.heap.size, 1, none⟩ = some (.int .i64 b) ∧ w'.cell? ⟨w.heap.size, 2, none⟩ = some (.int .i64 c) ∧ w'.cell? ⟨w.heap.size, 3, none⟩ = some (.int .i64 d) ∧ w'.cell? ⟨w.heap.size + 1, 0, none⟩ = some (.int .i64 x) ∧ w'.cell? ⟨w.heap.size + 1, 1, none⟩ = some (.int .i64 y)) W := ⟨(T0.b 0 rfl).c 0 rfl, (T0.b 0 rfl).c 1 rfl, (T0.b 0 rfl).c 2 rfl, (T0.b 0 rfl).c 3 rfl, (T0.b 1 rfl).c 0 rfl, (T0.b 1 rfl).c 1 rfl⟩
end Go.Proofs.YtpnnpkchogooaaaGreat
