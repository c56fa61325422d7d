/- Part 6 of the walks that the proof leans on. -/
import Derived.Test.YtllfpnnngdphfaaBase5
import Derived.Deep.QuietTactic
import Derived.BigQuiet
import Derived.Test.YtllfpnnngdphfaaBase3
import Derived.Deep.RegionHeld3
import Derived.Test.YtllfpnnngdphfaaBase4
/- The walk of the program's product of two numbers of four words. -/
namespace Go.Proofs.Ytllfpnnngdphfaa
open Go.RowKit
def TimesP (z : Int) (w : World) (e : Ending) (w' : World) : Prop :=
  ∃ z0 z1 z2 z3 z4 z5 z6 z7, e = .returned (L8 z0 z1 z2 z3 z4 z5 z6 z7) ∧ Words [z0, z1, z2, z3, z4, z5, z6, z7] ∧ sl z0 z1 z2 z3 z4 z5 z6 z7 = z ∧ Below w.heap.size w w'
theorem arr4 : Try.prog.arrayLen 41 = 4 := by kernel_rfl
theorem und4 : Try.prog.underlying 41 = some (.array (Try.prog.arrayLen 41) (Try.prog.elem 41)) := by kernel_rfl
theorem siz4 (w : World) : (sizeOf (Try.prog.elem 41)).run Try.prog w = .ok 1 w := by kernel_rfl
theorem slice4_h (g n : Nat) (hn : n ≤ 4) (w : World) : (Instr.sliceAt 41 (.pointer (some ⟨g, 0, none⟩)) none (some (.int .i64 n)) none).run Try.prog w = .ok (.slice (some ⟨g, 0, none⟩) n 4) w := by
  rw [run_sliceAt_array_h w _ _ und4 _ _ (by omega) (by rw [arr4]; omega), siz4, arr4]
  simp [Result.andThen, slicedAt, Addr.add]
theorem row_of_blk {W : World} {g : Nat} {xs : List Int} (h : Blk W g (xs.map (Value.int .u64))) : Row W g 0 xs :=
  ⟨fun i hi => by rw [Nat.zero_add]; exact h.c i (by simp [hi]), fun i hi => by rw [Nat.zero_add]; exact h.f i (v := .int .u64 xs[i]) (by simp [hi]), h.lt⟩
structure Tm3 (w wr : World) (vss : List (List Value)) (g g' gp : Nat) (xs ys zs : List Int) : Prop where
  args : ArgsB w wr vss
  x : Blk wr g (xs.map (Value.int .u64))
  y : Blk wr g' (ys.map (Value.int .u64))
  p : Blk wr gp (zs.map (Value.int .u64))
theorem Tm3.drew {w wr : World} {vss : List (List Value)} {g g' gp : Nat} {xs ys zs : List Int} (h : Tm3 w wr vss g g' gp xs ys zs) (n : Nat) : Tm3 w (wr.drewN n) vss g g' gp xs ys zs := ⟨⟨bdrew h.args.1 n, h.args.2⟩, h.x, h.y, h.p⟩
theorem Tm3.set {w wr : World} {vss : List (List Value)} {g g' gp : Nat} {xs ys zs : List Int} (h : Tm3 w wr vss g g' gp xs ys zs) (h1 : g ≠ gp) (h2 : g' ≠ gp) (hg : w.heap.size + vss.length ≤ gp) (j : Nat) (hj : j < zs.length) (u : Int) : Tm3 w (wr.setCell ⟨gp, j, none⟩ (.int .u64 u)) vss g g' gp xs ys (zs.set j u) :=
  ⟨h.args.set hg _, h.x.setO h1 _, h.y.setO h2 _, by have := h.p.setI j (by simpa using hj) (.int .u64 u); rwa [← List.map_set] at this⟩
theorem Tm3.cx {w wr : World} {vss : List (List Value)} {g g' gp : Nat} {xs ys zs : List Int} (h : Tm3 w wr vss g g' gp xs ys zs) (j : Nat) (hj : j < xs.length) : wr.cell? ⟨g, j, none⟩ = some (.int .u64 xs[j]) := h.x.c j (by simp [hj])
theorem Tm3.cy {w wr : World} {vss : List (List Value)} {g g' gp : Nat} {xs ys zs : List Int} (h : Tm3 w wr vss g g' gp xs ys zs) (j : Nat) (hj : j < ys.length) : wr.cell? ⟨g', j, none⟩ = some (.int .u64 ys[j]) := h.y.c j (by simp [hj])
theorem Tm3.cp {w wr : World} {vss : List (List Value)} {g g' gp : Nat} {xs ys zs : List Int} (h : Tm3 w wr vss g g' gp xs ys zs) (j : Nat) (hj : j < zs.length) : wr.cell? ⟨gp, j, none⟩ = some (.int .u64 zs[j]) ∧ wr.frozen? ⟨gp, j, none⟩ = false := ⟨h.p.c j (by simp [hj]), h.p.f j (v := .int .u64 zs[j]) (by simp [hj])⟩
theorem Tm3.step {w wr wr' : World} {vss : List (List Value)} {g g' gp : Nat} {xs ys zs : List Int} (h : Tm3 w wr vss g g' gp xs ys zs) (hB : Below wr.heap.size wr wr') : Tm3 w wr' vss g g' gp xs ys zs := ⟨h.args.step hB, h.x.step hB, h.y.step hB, h.p.step hB⟩
theorem Tm3.drew1 {w wr : World} {vss : List (List Value)} {g g' gp : Nat} {xs ys zs : List Int} (h : Tm3 w wr vss g g' gp xs ys zs) : Tm3 w wr.drew vss g g' gp xs ys zs := ⟨h.args.drew, h.x.drew, h.y.drew, h.p.drew⟩
theorem Blk.wrote {W W' : World} {A off n g : Nat} {vs : List Value} (h : Blk W g vs) (hw : Wrote A off n W W') (hg : g ≠ A) : Blk W' g vs :=
  ⟨by rw [hw.size]; exact h.1, fun i v hi => ⟨(hw.cellOther hg i).trans (h.2 i v hi).1, (hw.frzOther hg i).trans (h.2 i v hi).2⟩⟩
theorem Tm3.wrote {w W W' : World} {vss : List (List Value)} {g g' gp : Nat} {xs ys zs zs' : List Int} (h : Tm3 w W vss g g' gp xs ys zs) (hw : Wrote gp 0 8 W W') (hz : Blk W' gp (zs'.map (Value.int .u64))) (ng : g ≠ gp) (ng' : g' ≠ gp) (hg : w.heap.size + vss.length ≤ gp) : Tm3 w W' vss g g' gp xs ys zs' :=
  ⟨⟨h.args.1.trans ((hw.below (Nat.le_of_add_right_le hg))), fun j vs hj => (h.args.2 j vs hj).wrote hw (by have := (List.getElem?_eq_some_iff.1 hj).1; omega)⟩, h.x.wrote hw ng, h.y.wrote hw ng', hz⟩
theorem tm_take {xs : List Int} {m : Nat} (h : xs.length = 4) (hm : m ≤ 4) : (xs.take m).length = m := by rw [List.length_take]; omega
theorem w80 : Words [0, 0, 0, 0, 0, 0, 0, 0] := by
  intro d hd
  simp at hd
  subst hd
  exact ⟨by decide, by decide⟩
theorem row_take {W : World} {A off n : Nat} {xs : List Int} (h : Row W A off xs) : Row W A off (xs.take n) :=
  ⟨fun i hi => by rw [List.getElem_take]; exact h.cell i (by simp at hi; omega), fun i hi => h.frz i (by simp at hi; omega), h.lt⟩
theorem tm_total {xs ys xt yt : List Int} {A B : Int} (h1 : val64 xt = val64 xs) (h2 : val64 yt = val64 ys) (h3 : val64 xs = A) (h4 : val64 ys = B) : val64 [0, 0, 0, 0, 0, 0, 0, 0] + val64 xt * val64 yt = A * B := by
  rw [h1, h2, h3, h4]
  simp [val64]
theorem tm_bound {xs ys xt yt : List Int} {A B : Int} (h1 : val64 xt = val64 xs) (h2 : val64 yt = val64 ys) (h3 : val64 xs = A) (h4 : val64 ys = B) (h : A * B < pw64 8) : val64 [0, 0, 0, 0, 0, 0, 0, 0] + val64 xt * val64 yt < pw64 8 := by
  rw [tm_total h1 h2 h3 h4]; exact h
theorem tm3_cells {a3 a2 a1 a0 b3 b2 b1 b0 z0 z1 z2 z3 z4 z5 z6 z7 : Int} {w W : World} {g g' gp : Nat} {xs ys : List Int} (h : Tm3 w W [[.int .u64 a3, .int .u64 a2, .int .u64 a1, .int .u64 a0], [.int .u64 b3, .int .u64 b2, .int .u64 b1, .int .u64 b0], [.int .u64 0, .int .u64 0, .int .u64 0, .int .u64 0, .int .u64 0, .int .u64 0, .int .u64 0, .int .u64 0]] g g' gp xs ys [z0, z1, z2, z3, z4, z5, z6, z7]) : (fun w' => w'.cell? ⟨gp, 0, none⟩ = some (.int .u64 z0) ∧ w'.cell? ⟨gp, 1, none⟩ = some (.int .u64 z1) ∧ w'.cell? ⟨gp, 2, none⟩ = some (.int .u64 z2) ∧ w'.cell? ⟨gp, 3, none⟩ = some (.int .u64 z3) ∧ w'.cell? ⟨gp, 4, none⟩ = some (.int .u64 z4) ∧ w'.cell? ⟨gp, 5, none⟩ = some (.int .u64 z5) ∧ w'.cell? ⟨gp, 6, none⟩ = some (.int .u64 z6) ∧ w'.cell? ⟨gp, 7, none⟩ = some (.int .u64 z7) ∧ w'.cell? ⟨w.heap.size, 0, none⟩ = some (.int .u64 a3) ∧ w'.cell? ⟨w.heap.size, 1, none⟩ = some (.int .u64 a2) ∧ w'.cell? ⟨w.heap.size, 2, none⟩ = some (.int .u64 a1) ∧ w'.cell? ⟨w.heap.size, 3, none⟩ = some (.int .u64 a0) ∧ w'.cell? ⟨w.heap.size + 1, 0, none⟩ = some (.int .u64 b3) ∧ w'.cell? ⟨w.heap.size + 1, 1, none⟩ = some (.int .u64 b2) ∧ w'.cell? ⟨w.heap.size + 1, 2, none⟩ = some (.int .u64 b1) ∧ w'.cell? ⟨w.heap.size + 1, 3, none⟩ = some (.int .u64 b0)) W :=
  ⟨h.p.c 0 rfl, h.p.c 1 rfl, h.p.c 2 rfl, h.p.c 3 rfl, h.p.c 4 rfl, h.p.c 5 rfl, h.p.c 6 rfl, h.p.c 7 rfl, (h.args.b 0 rfl).c 0 rfl, (h.args.b 0 rfl).c 1 rfl, (h.args.b 0 rfl).c 2 rfl, (h.args.b 0 rfl).c 3 rfl, (h.args.b 1 rfl).c 0 rfl, (h.args.b 1 rfl).c 1 rfl, (h.args.b 1 rfl).c 2 rfl, (h.args.b 1 rfl).c 3 rfl⟩
theorem tm3_cells8 {a3 a2 a1 a0 b3 b2 b1 b0 z0 z1 z2 z3 z4 z5 z6 z7 : Int} {w W : World} {g g' gp : Nat} {xs ys : List Int} {v0 v1 v2 v3 v4 v5 v6 v7 : Value} (h : Tm3 w W [[.int .u64 a3, .int .u64 a2, .int .u64 a1, .int .u64 a0], [.int .u64 b3, .int .u64 b2, .int .u64 b1, .int .u64 b0], [.int .u64 0, .int .u64 0, .int .u64 0, .int .u64 0, .int .u64 0, .int .u64 0, .int .u64 0, .int .u64 0]] g g' gp xs ys [z0, z1, z2, z3, z4, z5, z6, z7]) (hg : w.heap.size + 2 < gp) : (fun w' => w'.cell? ⟨gp, 0, none⟩ = some (.int .u64 z0) ∧ w'.cell? ⟨gp, 1, none⟩ = some (.int .u64 z1) ∧ w'.cell? ⟨gp, 2, none⟩ = some (.int .u64 z2) ∧ w'.cell? ⟨gp, 3, none⟩ = some (.int .u64 z3) ∧ w'.cell? ⟨gp, 4, none⟩ = some (.int .u64 z4) ∧ w'.cell? ⟨gp, 5, none⟩ = some (.int .u64 z5) ∧ w'.cell? ⟨gp, 6, none⟩ = some (.int .u64 z6) ∧ w'.cell? ⟨gp, 7, none⟩ = some (.int .u64 z7) ∧ w'.cell? ⟨w.heap.size, 0, none⟩ = some (.int .u64 a3) ∧ w'.cell? ⟨w.heap.size, 1, none⟩ = some (.int .u64 a2) ∧ w'.cell? ⟨w.heap.size, 2, none⟩ = some (.int .u64 a1) ∧ w'.cell? ⟨w.heap.size, 3, none⟩ = some (.int .u64 a0) ∧ w'.cell? ⟨w.heap.size + 1, 0, none⟩ = some (.int .u64 b3) ∧ w'.cell? ⟨w.heap.size + 1, 1, none⟩ = some (.int .u64 b2) ∧ w'.cell? ⟨w.heap.size + 1, 2, none⟩ = some (.int .u64 b1) ∧ w'.cell? ⟨w.heap.size + 1, 3, none⟩ = some (.int .u64 b0)) ((((((((W.setCell ⟨w.heap.size + 1 + 1, 0, none⟩ v0).setCell ⟨w.heap.size + 1 + 1, 1, none⟩ v1).setCell ⟨w.heap.size + 1 + 1, 2, none⟩ v2).setCell ⟨w.heap.size + 1 + 1, 3, none⟩ v3).setCell ⟨w.heap.size + 1 + 1, 4, none⟩ v4).setCell ⟨w.heap.size + 1 + 1, 5, none⟩ v5).setCell ⟨w.heap.size + 1 + 1, 6, none⟩ v6).setCell ⟨w.heap.size + 1 + 1, 7, none⟩ v7) := by
  have p : Blk _ gp _ := ((((((((h.p.setO (p := ⟨w.heap.size + 1 + 1, 0, none⟩) (by show gp ≠ w.heap.size + 1 + 1; omega) v0).setO (p := ⟨w.heap.size + 1 + 1, 1, none⟩) (by show gp ≠ w.heap.size + 1 + 1; omega) v1).setO (p := ⟨w.heap.size + 1 + 1, 2, none⟩) (by show gp ≠ w.heap.size + 1 + 1; omega) v2).setO (p := ⟨w.heap.size + 1 + 1, 3, none⟩) (by show gp ≠ w.heap.size + 1 + 1; omega) v3).setO (p := ⟨w.heap.size + 1 + 1, 4, none⟩) (by show gp ≠ w.heap.size + 1 + 1; omega) v4).setO (p := ⟨w.heap.size + 1 + 1, 5, none⟩) (by show gp ≠ w.heap.size + 1 + 1; omega) v5).setO (p := ⟨w.heap.size + 1 + 1, 6, none⟩) (by show gp ≠ w.heap.size + 1 + 1; omega) v6).setO (p := ⟨w.heap.size + 1 + 1, 7, none⟩) (by show gp ≠ w.heap.size + 1 + 1; omega) v7)
  have a : Blk _ (w.heap.size + 0) _ := (((((((((h.args.b 0 rfl).setO (p := ⟨w.heap.size + 1 + 1, 0, none⟩) (by show w.heap.size + 0 ≠ w.heap.size + 1 + 1; omega) v0).setO (p := ⟨w.heap.size + 1 + 1, 1, none⟩) (by show w.heap.size + 0 ≠ w.heap.size + 1 + 1; omega) v1).setO (p := ⟨w.heap.size + 1 + 1, 2, none⟩) (by show w.heap.size + 0 ≠ w.heap.size + 1 + 1; omega) v2).setO (p := ⟨w.heap.size + 1 + 1, 3, none⟩) (by show w.heap.size + 0 ≠ w.heap.size + 1 + 1; omega) v3).setO (p := ⟨w.heap.size + 1 + 1, 4, none⟩) (by show w.heap.size + 0 ≠ w.heap.size + 1 + 1; omega) v4).setO (p := ⟨w.heap.size + 1 + 1, 5, none⟩) (by show w.heap.size + 0 ≠ w.heap.size + 1 + 1; omega) v5).setO (p := ⟨w.heap.size + 1 + 1, 6, none⟩) (by show w.heap.size + 0 ≠ w.heap.size + 1 + 1; omega) v6).setO (p := ⟨w.heap.size + 1 + 1, 7, none⟩) (by show w.heap.size + 0 ≠ w.heap.size + 1 + 1; omega) v7)
  have b : Blk _ (w.heap.size + 1) _ := (((((((((h.args.b 1 rfl).setO (p := ⟨w.heap.size + 1 + 1, 0, none⟩) (by show w.heap.size + 1 ≠ w.heap.size + 1 + 1; omega) v0).setO (p := ⟨w.heap.size + 1 + 1, 1, none⟩) (by show w.heap.size + 1 ≠ w.heap.size + 1 + 1; omega) v1).setO (p := ⟨w.heap.size + 1 + 1, 2, none⟩) (by show w.heap.size + 1 ≠ w.heap.size + 1 + 1; omega) v2).setO (p := ⟨w.heap.size + 1 + 1, 3, none⟩) (by show w.heap.size + 1 ≠ w.heap.size + 1 + 1; omega) v3).setO (p := ⟨w.heap.size + 1 + 1, 4, none⟩) (by show w.heap.size + 1 ≠ w.heap.size + 1 + 1; omega) v4).setO (p := ⟨w.heap.size + 1 + 1, 5, none⟩) (by show w.heap.size + 1 ≠ w.heap.size + 1 + 1; omega) v5).setO (p := ⟨w.heap.size + 1 + 1, 6, none⟩) (by show w.heap.size + 1 ≠ w.heap.size + 1 + 1; omega) v6).setO (p := ⟨w.heap.size + 1 + 1, 7, none⟩) (by show w.heap.size + 1 ≠ w.heap.size + 1 + 1; omega) v7)
  exact ⟨p.c 0 rfl, p.c 1 rfl, p.c 2 rfl, p.c 3 rfl, p.c 4 rfl, p.c 5 rfl, p.c 6 rfl, p.c 7 rfl, a.c 0 rfl, a.c 1 rfl, a.c 2 rfl, a.c 3 rfl, b.c 0 rfl, b.c 1 rfl, b.c 2 rfl, b.c 3 rfl⟩
theorem sl_top {z0 z1 z2 z3 z4 z5 z6 z7 : Int} (h : Words [z0, z1, z2, z3, z4, z5, z6, z7]) : (z7 < 9223372036854775808 ↔ val64 [z0, z1, z2, z3, z4, z5, z6, z7] < 6703903964971298549787012499102923063739682910296196688861780721860882015036773488400937149083451713845015929093243025426876941405973284973216824503042048) ∧ 0 ≤ val64 [z0, z1, z2, z3, z4, z5, z6, z7] ∧ val64 [z0, z1, z2, z3, z4, z5, z6, z7] < 13407807929942597099574024998205846127479365820592393377723561443721764030073546976801874298166903427690031858186486050853753882811946569946433649006084096 := by
  obtain ⟨h0, h1, h2, h3, h4, h5, h6, h7⟩ := words8_of h
  unfold Word at *
  simp only [val64]
  omega
theorem nat_abs_cases (A : Int) : (0 ≤ A ∧ (A.natAbs : Int) = A) ∨ (A < 0 ∧ (A.natAbs : Int) = -A) := by omega
theorem sl_signed {z0 z1 z2 z3 z4 z5 z6 z7 A B V : Int} {b : Bool} (h : Words [z0, z1, z2, z3, z4, z5, z6, z7]) (hA : (A.natAbs : Int) ≤ 57896044618658097711785492504343953926634992332820282019728792003956564819968) (hB : (B.natAbs : Int) ≤ 57896044618658097711785492504343953926634992332820282019728792003956564819968) (hV : V = (A.natAbs : Int) * (B.natAbs : Int)) (hb : b = (decide (A < 0) != decide (B < 0)))
    (hz : ∃ c, 0 ≤ c ∧ c ≤ 1 ∧ val64 [z0, z1, z2, z3, z4, z5, z6, z7] = if b then 0 - V + c * 13407807929942597099574024998205846127479365820592393377723561443721764030073546976801874298166903427690031858186486050853753882811946569946433649006084096 else V) : sl z0 z1 z2 z3 z4 z5 z6 z7 = A * B := by
  obtain ⟨t1, t2, t3⟩ := sl_top h
  obtain ⟨c, c0, c1, hv⟩ := hz
  have m0 : 0 ≤ V := by rw [hV]; exact Int.mul_nonneg (by omega) (by omega)
  have m1 : V ≤ 3351951982485649274893506249551461531869841455148098344430890360930441007518386744200468574541725856922507964546621512713438470702986642486608412251521024 := by
    rw [hV]
    have h1 : (A.natAbs : Int) * (B.natAbs : Int) ≤ 57896044618658097711785492504343953926634992332820282019728792003956564819968 * (B.natAbs : Int) := Int.mul_le_mul_of_nonneg_right hA (by omega)
    omega
  have e : A * B = if b then -V else V := by
    rw [hV, hb]
    rcases nat_abs_cases A with ⟨p, e1⟩ | ⟨p, e1⟩ <;> rcases nat_abs_cases B with ⟨q, e2⟩ | ⟨q, e2⟩ <;> rw [e1, e2]
    · simp [show ¬ A < 0 by omega, show ¬ B < 0 by omega]
    · simp [show ¬ A < 0 by omega, q, Int.mul_neg]
    · simp [p, show ¬ B < 0 by omega, Int.neg_mul]
    · simp [p, q, Int.neg_mul, Int.mul_neg]
  unfold sl
  generalize val64 [z0, z1, z2, z3, z4, z5, z6, z7] = U at *
  rw [e]
  clear hV e hb
  obtain rfl | rfl : c = 0 ∨ c = 1 := by omega
  · cases b
    · simp only [Bool.false_eq_true, if_false] at hv ⊢
      rw [if_pos (t1.2 (by omega))]; omega
    · simp only [if_true] at hv ⊢
      rw [if_pos (t1.2 (by omega))]; omega
  · cases b
    · simp only [Bool.false_eq_true, if_false] at hv ⊢
      rw [if_pos (t1.2 (by omega))]; omega
    · simp only [if_true] at hv ⊢
      rw [if_neg (by rw [t1]; omega)]; omega
set_option maxRecDepth 100000 in
set_option maxHeartbeats 4000000 in
theorem times_any (a3 a2 a1 a0 b3 b2 b1 b0 : Int) (h3 : Word a3) (h2 : Word a2) (h1 : Word a1) (h0 : Word a0) (k3 : Word b3) (k2 : Word b2) (k1 : Word b1) (k0 : Word b0) (w : World) :
    Calls Try.prog 32 #[.agg #[.int .u64 a3, .int .u64 a2, .int .u64 a1, .int .u64 a0], .agg #[.int .u64 b3, .int .u64 b2, .int .u64 b1, .int .u64 b0]] w (TimesP (sw a3 a2 a1 a0 * sw b3 b2 b1 b0) w) := by
  obtain ⟨x3, x2, x1, x0, e3, e2, e1, e0, hx⟩ := size_words ((sw a3 a2 a1 a0).natAbs : Int) (by omega) (by have := sw_size h3 h2 h1 h0; omega)
  obtain ⟨y3, y2, y1, y0, f3, f2, f1, f0, hy⟩ := size_words ((sw b3 b2 b1 b0).natAbs : Int) (by omega) (by have := sw_size k3 k2 k1 k0; omega)
  have T0 := tm_args a3 a2 a1 a0 b3 b2 b1 b0 w
  have tok1 : True := trivial
  go_enter Try.func32, Try.ntmps32
  go_upto_region 1 with fail
  generalize (((w.alloc (.cells #[.int .u64 a3, .int .u64 a2, .int .u64 a1, .int .u64 a0] 26)).alloc (.cells #[.int .u64 b3, .int .u64 b2, .int .u64 b1, .int .u64 b0] 26)).alloc (.cells #[.int .u64 0, .int .u64 0, .int .u64 0, .int .u64 0, .int .u64 0, .int .u64 0, .int .u64 0, .int .u64 0] 53)) = W at *
  go_cut [5, 6] (fun p q wx => CutT w wx [[.int .u64 a3, .int .u64 a2, .int .u64 a1, .int .u64 a0], [.int .u64 b3, .int .u64 b2, .int .u64 b1, .int .u64 b0], [.int .u64 0, .int .u64 0, .int .u64 0, .int .u64 0, .int .u64 0, .int .u64 0, .int .u64 0, .int .u64 0]] [.int .u64 x0, .int .u64 x1, .int .u64 x2, .int .u64 x3] [.int .u64 y0, .int .u64 y1, .int .u64 y2, .int .u64 y3] p q)
  case first =>
    go_region_held3 (fun w' => w'.cell? ⟨w.heap.size, 0, none⟩ = some (.int .u64 a3) ∧ w'.cell? ⟨w.heap.size, 1, none⟩ = some (.int .u64 a2) ∧ w'.cell? ⟨w.heap.size, 2, none⟩ = some (.int .u64 a1) ∧ w'.cell? ⟨w.heap.size, 3, none⟩ = some (.int .u64 a0) ∧ w'.cell? ⟨w.heap.size + 1, 0, none⟩ = some (.int .u64 b3) ∧ w'.cell? ⟨w.heap.size + 1, 1, none⟩ = some (.int .u64 b2) ∧ w'.cell? ⟨w.heap.size + 1, 2, none⟩ = some (.int .u64 b1) ∧ w'.cell? ⟨w.heap.size + 1, 3, none⟩ = some (.int .u64 b0)) (first | (with_reducible exact tm_cells T0) | (with_reducible exact tm_cells T0.drew) | (with_reducible exact tm_cells (T0.alloc _)) | (with_reducible exact tm_cells (T0.alloc _).drew) | (with_reducible exact tm_cells ((T0.alloc _).alloc _)) | (with_reducible exact tm_cells ((T0.alloc _).alloc _).drew) | (with_reducible exact tm_cells (T0.set4 (by omega) _ _ _ _)) | (with_reducible exact tm_cells ((T0.set4 (by omega) _ _ _ _).alloc _)) | (with_reducible exact tm_cells ((T0.set4 (by omega) _ _ _ _).set4 (by omega) _ _ _ _)) | (exact tm_cells T0.drew) | skip)
      (first
        | (go_at_call 41; have _t := tok1; refine (sizeOf_det a3 a2 a1 a0 h3 h2 h1 h0 x3 x2 x1 x0 e3 e2 e1 e0 hx _).mono ?_; rintro e w1 ⟨rfl, hB⟩; (first | (have T1 : ArgsB w w1 [[.int .u64 a3, .int .u64 a2, .int .u64 a1, .int .u64 a0], [.int .u64 b3, .int .u64 b2, .int .u64 b1, .int .u64 b0], [.int .u64 0, .int .u64 0, .int .u64 0, .int .u64 0, .int .u64 0, .int .u64 0, .int .u64 0, .int .u64 0]] := (by with_reducible exact T0.step hB); have hltw1 := T0.lt3; try (replace G0 := G0.step hB; have z0c := G0.c 0 rfl; have z0f := G0.f 0 rfl; have z1c := G0.c 1 rfl; have z1f := G0.f 1 rfl; have z2c := G0.c 2 rfl; have z2f := G0.f 2 rfl; have z3c := G0.c 3 rfl; have z3f := G0.f 3 rfl; have zlt := G0.lt); try (replace G1 := G1.step hB; have y0c := G1.c 0 rfl; have y0f := G1.f 0 rfl; have y1c := G1.c 1 rfl; have y1f := G1.f 1 rfl; have y2c := G1.c 2 rfl; have y2f := G1.f 2 rfl; have y3c := G1.c 3 rfl; have y3f := G1.f 3 rfl; have ylt := G1.lt)) | (have T1 : ArgsB w w1 [[.int .u64 a3, .int .u64 a2, .int .u64 a1, .int .u64 a0], [.int .u64 b3, .int .u64 b2, .int .u64 b1, .int .u64 b0], [.int .u64 0, .int .u64 0, .int .u64 0, .int .u64 0, .int .u64 0, .int .u64 0, .int .u64 0, .int .u64 0]] := (by with_reducible exact T0.drew.step hB); have hltw1 := T0.lt3; try (replace G0 := G0.drew.step hB; have z0c := G0.c 0 rfl; have z0f := G0.f 0 rfl; have z1c := G0.c 1 rfl; have z1f := G0.f 1 rfl; have z2c := G0.c 2 rfl; have z2f := G0.f 2 rfl; have z3c := G0.c 3 rfl; have z3f := G0.f 3 rfl; have zlt := G0.lt); try (replace G1 := G1.drew.step hB; have y0c := G1.c 0 rfl; have y0f := G1.f 0 rfl; have y1c := G1.c 1 rfl; have y1f := G1.f 1 rfl; have y2c := G1.c 2 rfl; have y2f := G1.f 2 rfl; have y3c := G1.c 3 rfl; have y3f := G1.f 3 rfl; have ylt := G1.lt)) | (have T1 : ArgsB w w1 [[.int .u64 a3, .int .u64 a2, .int .u64 a1, .int .u64 a0], [.int .u64 b3, .int .u64 b2, .int .u64 b1, .int .u64 b0], [.int .u64 0, .int .u64 0, .int .u64 0, .int .u64 0, .int .u64 0, .int .u64 0, .int .u64 0, .int .u64 0]] := (by with_reducible exact (T0.alloc _).step hB); have hltw1 := T0.lt3; (first | (have G1 := (Blk.new _ [.int .u64 0, .int .u64 0, .int .u64 0, .int .u64 0] _ rfl).step hB; have hgg := G0.lt; replace G0 := (G0.alloc _).step hB; have z0c := G0.c 0 rfl; have z0f := G0.f 0 rfl; have z1c := G0.c 1 rfl; have z1f := G0.f 1 rfl; have z2c := G0.c 2 rfl; have z2f := G0.f 2 rfl; have z3c := G0.c 3 rfl; have z3f := G0.f 3 rfl; have zlt := G0.lt; have y0c := G1.c 0 rfl; have y0f := G1.f 0 rfl; have y1c := G1.c 1 rfl; have y1f := G1.f 1 rfl; have y2c := G1.c 2 rfl; have y2f := G1.f 2 rfl; have y3c := G1.c 3 rfl; have y3f := G1.f 3 rfl; have ylt := G1.lt) | (have G0 := (Blk.new _ [.int .u64 0, .int .u64 0, .int .u64 0, .int .u64 0] _ rfl).step hB; have z0c := G0.c 0 rfl; have z0f := G0.f 0 rfl; have z1c := G0.c 1 rfl; have z1f := G0.f 1 rfl; have z2c := G0.c 2 rfl; have z2f := G0.f 2 rfl; have z3c := G0.c 3 rfl; have z3f := G0.f 3 rfl; have zlt := G0.lt))) | (have T1 : ArgsB w w1 [[.int .u64 a3, .int .u64 a2, .int .u64 a1, .int .u64 a0], [.int .u64 b3, .int .u64 b2, .int .u64 b1, .int .u64 b0], [.int .u64 0, .int .u64 0, .int .u64 0, .int .u64 0, .int .u64 0, .int .u64 0, .int .u64 0, .int .u64 0]] := (by with_reducible exact (T0.alloc _).drew.step hB); have hltw1 := T0.lt3; (first | (have G1 := (Blk.new _ [.int .u64 0, .int .u64 0, .int .u64 0, .int .u64 0] _ rfl).drew.step hB; have hgg := G0.lt; replace G0 := (G0.alloc _).drew.step hB; have z0c := G0.c 0 rfl; have z0f := G0.f 0 rfl; have z1c := G0.c 1 rfl; have z1f := G0.f 1 rfl; have z2c := G0.c 2 rfl; have z2f := G0.f 2 rfl; have z3c := G0.c 3 rfl; have z3f := G0.f 3 rfl; have zlt := G0.lt; have y0c := G1.c 0 rfl; have y0f := G1.f 0 rfl; have y1c := G1.c 1 rfl; have y1f := G1.f 1 rfl; have y2c := G1.c 2 rfl; have y2f := G1.f 2 rfl; have y3c := G1.c 3 rfl; have y3f := G1.f 3 rfl; have ylt := G1.lt) | (have G0 := (Blk.new _ [.int .u64 0, .int .u64 0, .int .u64 0, .int .u64 0] _ rfl).drew.step hB; have z0c := G0.c 0 rfl; have z0f := G0.f 0 rfl; have z1c := G0.c 1 rfl; have z1f := G0.f 1 rfl; have z2c := G0.c 2 rfl; have z2f := G0.f 2 rfl; have z3c := G0.c 3 rfl; have z3f := G0.f 3 rfl; have zlt := G0.lt))) | (have T1 : ArgsB w w1 [[.int .u64 a3, .int .u64 a2, .int .u64 a1, .int .u64 a0], [.int .u64 b3, .int .u64 b2, .int .u64 b1, .int .u64 b0], [.int .u64 0, .int .u64 0, .int .u64 0, .int .u64 0, .int .u64 0, .int .u64 0, .int .u64 0, .int .u64 0]] := (by with_reducible exact ((T0.alloc _).alloc _).step hB); have hltw1 := T0.lt3; have G0 := ((Blk.new _ [.int .u64 0, .int .u64 0, .int .u64 0, .int .u64 0] _ rfl).alloc _).step hB; have G1 := (Blk.new2 _ _ [.int .u64 0, .int .u64 0, .int .u64 0, .int .u64 0] _).step hB; have z0c := G0.c 0 rfl; have z0f := G0.f 0 rfl; have z1c := G0.c 1 rfl; have z1f := G0.f 1 rfl; have z2c := G0.c 2 rfl; have z2f := G0.f 2 rfl; have z3c := G0.c 3 rfl; have z3f := G0.f 3 rfl; have zlt := G0.lt; have y0c := G1.c 0 rfl; have y0f := G1.f 0 rfl; have y1c := G1.c 1 rfl; have y1f := G1.f 1 rfl; have y2c := G1.c 2 rfl; have y2f := G1.f 2 rfl; have y3c := G1.c 3 rfl; have y3f := G1.f 3 rfl; have ylt := G1.lt) | (have T1 : ArgsB w w1 [[.int .u64 a3, .int .u64 a2, .int .u64 a1, .int .u64 a0], [.int .u64 b3, .int .u64 b2, .int .u64 b1, .int .u64 b0], [.int .u64 0, .int .u64 0, .int .u64 0, .int .u64 0, .int .u64 0, .int .u64 0, .int .u64 0, .int .u64 0]] := (by with_reducible exact ((T0.alloc _).alloc _).drew.step hB); have hltw1 := T0.lt3; have G0 := ((Blk.new _ [.int .u64 0, .int .u64 0, .int .u64 0, .int .u64 0] _ rfl).alloc _).drew.step hB; have G1 := (Blk.new2 _ _ [.int .u64 0, .int .u64 0, .int .u64 0, .int .u64 0] _).drew.step hB; have z0c := G0.c 0 rfl; have z0f := G0.f 0 rfl; have z1c := G0.c 1 rfl; have z1f := G0.f 1 rfl; have z2c := G0.c 2 rfl; have z2f := G0.f 2 rfl; have z3c := G0.c 3 rfl; have z3f := G0.f 3 rfl; have zlt := G0.lt; have y0c := G1.c 0 rfl; have y0f := G1.f 0 rfl; have y1c := G1.c 1 rfl; have y1f := G1.f 1 rfl; have y2c := G1.c 2 rfl; have y2f := G1.f 2 rfl; have y3c := G1.c 3 rfl; have y3f := G1.f 3 rfl; have ylt := G1.lt)); clear T0; have T0 := T1; clear T1; clear tok1 _t hB)
        | (go_at_call 41; refine (sizeOf_det b3 b2 b1 b0 k3 k2 k1 k0 y3 y2 y1 y0 f3 f2 f1 f0 hy _).mono ?_; rintro e w2 ⟨rfl, hB⟩; (first | (have T1 : ArgsB w w2 [[.int .u64 a3, .int .u64 a2, .int .u64 a1, .int .u64 a0], [.int .u64 b3, .int .u64 b2, .int .u64 b1, .int .u64 b0], [.int .u64 0, .int .u64 0, .int .u64 0, .int .u64 0, .int .u64 0, .int .u64 0, .int .u64 0, .int .u64 0]] := (by with_reducible exact T0.step hB); have hltw2 := T0.lt3; try (replace G0 := G0.step hB; have z0c := G0.c 0 rfl; have z0f := G0.f 0 rfl; have z1c := G0.c 1 rfl; have z1f := G0.f 1 rfl; have z2c := G0.c 2 rfl; have z2f := G0.f 2 rfl; have z3c := G0.c 3 rfl; have z3f := G0.f 3 rfl; have zlt := G0.lt); try (replace G1 := G1.step hB; have y0c := G1.c 0 rfl; have y0f := G1.f 0 rfl; have y1c := G1.c 1 rfl; have y1f := G1.f 1 rfl; have y2c := G1.c 2 rfl; have y2f := G1.f 2 rfl; have y3c := G1.c 3 rfl; have y3f := G1.f 3 rfl; have ylt := G1.lt)) | (have T1 : ArgsB w w2 [[.int .u64 a3, .int .u64 a2, .int .u64 a1, .int .u64 a0], [.int .u64 b3, .int .u64 b2, .int .u64 b1, .int .u64 b0], [.int .u64 0, .int .u64 0, .int .u64 0, .int .u64 0, .int .u64 0, .int .u64 0, .int .u64 0, .int .u64 0]] := (by with_reducible exact T0.drew.step hB); have hltw2 := T0.lt3; try (replace G0 := G0.drew.step hB; have z0c := G0.c 0 rfl; have z0f := G0.f 0 rfl; have z1c := G0.c 1 rfl; have z1f := G0.f 1 rfl; have z2c := G0.c 2 rfl; have z2f := G0.f 2 rfl; have z3c := G0.c 3 rfl; have z3f := G0.f 3 rfl; have zlt := G0.lt); try (replace G1 := G1.drew.step hB; have y0c := G1.c 0 rfl; have y0f := G1.f 0 rfl; have y1c := G1.c 1 rfl; have y1f := G1.f 1 rfl; have y2c := G1.c 2 rfl; have y2f := G1.f 2 rfl; have y3c := G1.c 3 rfl; have y3f := G1.f 3 rfl; have ylt := G1.lt)) | (have T1 : ArgsB w w2 [[.int .u64 a3, .int .u64 a2, .int .u64 a1, .int .u64 a0], [.int .u64 b3, .int .u64 b2, .int .u64 b1, .int .u64 b0], [.int .u64 0, .int .u64 0, .int .u64 0, .int .u64 0, .int .u64 0, .int .u64 0, .int .u64 0, .int .u64 0]] := (by with_reducible exact (T0.alloc _).step hB); have hltw2 := T0.lt3; (first | (have G1 := (Blk.new _ [.int .u64 0, .int .u64 0, .int .u64 0, .int .u64 0] _ rfl).step hB; have hgg := G0.lt; replace G0 := (G0.alloc _).step hB; have z0c := G0.c 0 rfl; have z0f := G0.f 0 rfl; have z1c := G0.c 1 rfl; have z1f := G0.f 1 rfl; have z2c := G0.c 2 rfl; have z2f := G0.f 2 rfl; have z3c := G0.c 3 rfl; have z3f := G0.f 3 rfl; have zlt := G0.lt; have y0c := G1.c 0 rfl; have y0f := G1.f 0 rfl; have y1c := G1.c 1 rfl; have y1f := G1.f 1 rfl; have y2c := G1.c 2 rfl; have y2f := G1.f 2 rfl; have y3c := G1.c 3 rfl; have y3f := G1.f 3 rfl; have ylt := G1.lt) | (have G0 := (Blk.new _ [.int .u64 0, .int .u64 0, .int .u64 0, .int .u64 0] _ rfl).step hB; have z0c := G0.c 0 rfl; have z0f := G0.f 0 rfl; have z1c := G0.c 1 rfl; have z1f := G0.f 1 rfl; have z2c := G0.c 2 rfl; have z2f := G0.f 2 rfl; have z3c := G0.c 3 rfl; have z3f := G0.f 3 rfl; have zlt := G0.lt))) | (have T1 : ArgsB w w2 [[.int .u64 a3, .int .u64 a2, .int .u64 a1, .int .u64 a0], [.int .u64 b3, .int .u64 b2, .int .u64 b1, .int .u64 b0], [.int .u64 0, .int .u64 0, .int .u64 0, .int .u64 0, .int .u64 0, .int .u64 0, .int .u64 0, .int .u64 0]] := (by with_reducible exact (T0.alloc _).drew.step hB); have hltw2 := T0.lt3; (first | (have G1 := (Blk.new _ [.int .u64 0, .int .u64 0, .int .u64 0, .int .u64 0] _ rfl).drew.step hB; have hgg := G0.lt; replace G0 := (G0.alloc _).drew.step hB; have z0c := G0.c 0 rfl; have z0f := G0.f 0 rfl; have z1c := G0.c 1 rfl; have z1f := G0.f 1 rfl; have z2c := G0.c 2 rfl; have z2f := G0.f 2 rfl; have z3c := G0.c 3 rfl; have z3f := G0.f 3 rfl; have zlt := G0.lt; have y0c := G1.c 0 rfl; have y0f := G1.f 0 rfl; have y1c := G1.c 1 rfl; have y1f := G1.f 1 rfl; have y2c := G1.c 2 rfl; have y2f := G1.f 2 rfl; have y3c := G1.c 3 rfl; have y3f := G1.f 3 rfl; have ylt := G1.lt) | (have G0 := (Blk.new _ [.int .u64 0, .int .u64 0, .int .u64 0, .int .u64 0] _ rfl).drew.step hB; have z0c := G0.c 0 rfl; have z0f := G0.f 0 rfl; have z1c := G0.c 1 rfl; have z1f := G0.f 1 rfl; have z2c := G0.c 2 rfl; have z2f := G0.f 2 rfl; have z3c := G0.c 3 rfl; have z3f := G0.f 3 rfl; have zlt := G0.lt))) | (have T1 : ArgsB w w2 [[.int .u64 a3, .int .u64 a2, .int .u64 a1, .int .u64 a0], [.int .u64 b3, .int .u64 b2, .int .u64 b1, .int .u64 b0], [.int .u64 0, .int .u64 0, .int .u64 0, .int .u64 0, .int .u64 0, .int .u64 0, .int .u64 0, .int .u64 0]] := (by with_reducible exact ((T0.alloc _).alloc _).step hB); have hltw2 := T0.lt3; have G0 := ((Blk.new _ [.int .u64 0, .int .u64 0, .int .u64 0, .int .u64 0] _ rfl).alloc _).step hB; have G1 := (Blk.new2 _ _ [.int .u64 0, .int .u64 0, .int .u64 0, .int .u64 0] _).step hB; have z0c := G0.c 0 rfl; have z0f := G0.f 0 rfl; have z1c := G0.c 1 rfl; have z1f := G0.f 1 rfl; have z2c := G0.c 2 rfl; have z2f := G0.f 2 rfl; have z3c := G0.c 3 rfl; have z3f := G0.f 3 rfl; have zlt := G0.lt; have y0c := G1.c 0 rfl; have y0f := G1.f 0 rfl; have y1c := G1.c 1 rfl; have y1f := G1.f 1 rfl; have y2c := G1.c 2 rfl; have y2f := G1.f 2 rfl; have y3c := G1.c 3 rfl; have y3f := G1.f 3 rfl; have ylt := G1.lt) | (have T1 : ArgsB w w2 [[.int .u64 a3, .int .u64 a2, .int .u64 a1, .int .u64 a0], [.int .u64 b3, .int .u64 b2, .int .u64 b1, .int .u64 b0], [.int .u64 0, .int .u64 0, .int .u64 0, .int .u64 0, .int .u64 0, .int .u64 0, .int .u64 0, .int .u64 0]] := (by with_reducible exact ((T0.alloc _).alloc _).drew.step hB); have hltw2 := T0.lt3; have G0 := ((Blk.new _ [.int .u64 0, .int .u64 0, .int .u64 0, .int .u64 0] _ rfl).alloc _).drew.step hB; have G1 := (Blk.new2 _ _ [.int .u64 0, .int .u64 0, .int .u64 0, .int .u64 0] _).drew.step hB; have z0c := G0.c 0 rfl; have z0f := G0.f 0 rfl; have z1c := G0.c 1 rfl; have z1f := G0.f 1 rfl; have z2c := G0.c 2 rfl; have z2f := G0.f 2 rfl; have z3c := G0.c 3 rfl; have z3f := G0.f 3 rfl; have zlt := G0.lt; have y0c := G1.c 0 rfl; have y0f := G1.f 0 rfl; have y1c := G1.c 1 rfl; have y1f := G1.f 1 rfl; have y2c := G1.c 2 rfl; have y2f := G1.f 2 rfl; have y3c := G1.c 3 rfl; have y3f := G1.f 3 rfl; have ylt := G1.lt)); clear T0; have T0 := T1; clear T1; clear hB))
    all_goals go_wp2_with fail
    all_goals go_meet
    all_goals first | (with_reducible exact cutT_nn T0 T0.lt3) | (with_reducible exact cutT_nn' T0 T0.lt3) | (with_reducible exact cutT_sn T0 G0 (by omega) T0.lt3) | (with_reducible exact cutT_sn' T0 G0 (by omega) T0.lt3) | (with_reducible exact cutT_ss T0 G0 G1 (by omega) (by omega) (by omega)) | (with_reducible exact cutT_ss T0 G1 G0 (by omega) (by omega) (by omega))
  case rest =>
    clear T0 tok1
    obtain ⟨g, g', hp, hq, hne, hg, hg', T0, GX, GY⟩ := hcut
    subst hp; subst hq
    have hw4 : Words [x0, x1, x2, x3] := words4 e0 e1 e2 e3
    have hv4 : Words [y0, y1, y2, y3] := words4 f0 f1 f2 f3
    have HVX : Hid (val64 [x0, x1, x2, x3] = ((sw a3 a2 a1 a0).natAbs : Int)) := by show _ = _; rw [val64_4, hx]
    have HVY : Hid (val64 [y0, y1, y2, y3] = ((sw b3 b2 b1 b0).natAbs : Int)) := by show _ = _; rw [val64_4, hy]
    have HX : Hid (Words [x0, x1, x2, x3]) := hw4
    have HY : Hid (Words [y0, y1, y2, y3]) := hv4
    have HS : Tm3 w (wc.alloc (.cells #[.int .u64 0, .int .u64 0, .int .u64 0, .int .u64 0, .int .u64 0, .int .u64 0, .int .u64 0, .int .u64 0] 53)) [[.int .u64 a3, .int .u64 a2, .int .u64 a1, .int .u64 a0], [.int .u64 b3, .int .u64 b2, .int .u64 b1, .int .u64 b0], [.int .u64 0, .int .u64 0, .int .u64 0, .int .u64 0, .int .u64 0, .int .u64 0, .int .u64 0, .int .u64 0]] g g' wc.heap.size [x0, x1, x2, x3] [y0, y1, y2, y3] [0, 0, 0, 0, 0, 0, 0, 0] := ⟨T0.alloc _, GX.alloc _, GY.alloc _, Blk.new wc [.int .u64 0, .int .u64 0, .int .u64 0, .int .u64 0, .int .u64 0, .int .u64 0, .int .u64 0, .int .u64 0] 53 rfl⟩
    have hgx := GX.lt; have hgy := GY.lt; have hl3 := T0.lt3
    clear T0 GX GY hx hy e3 e2 e1 e0 f3 f2 f1 f0 hw4 hv4
    go_upto_region 3 with fail
    generalize wc.alloc (.cells #[.int .u64 0, .int .u64 0, .int .u64 0, .int .u64 0, .int .u64 0, .int .u64 0, .int .u64 0, .int .u64 0] 53) = W1 at *
    have ng : g ≠ wc.heap.size := by omega
    have ng' : g' ≠ wc.heap.size := by omega
    have hgp : w.heap.size + 2 < wc.heap.size := hl3
    generalize wc.heap.size = gp at *
    generalize hxs : [x0, x1, x2, x3] = xs at *
    generalize hys : [y0, y1, y2, y3] = ys at *
    have HLX : Hid (xs.length = 4) := by show _ = _; rw [← hxs]; rfl
    have HLY : Hid (ys.length = 4) := by show _ = _; rw [← hys]; rfl
    clear hxs hys hgx hgy hl3
    have RX : Row W1 g 0 xs := row_of_blk HS.x
    have RY : Row W1 g' 0 ys := row_of_blk HS.y
    have HVP : Hid (((sw a3 a2 a1 a0).natAbs : Int) * ((sw b3 b2 b1 b0).natAbs : Int) < pw64 8) := by
      show _ < _
      rw [pw64_8]
      have s1 := sw_size h3 h2 h1 h0
      have s2 := sw_size k3 k2 k1 k0
      have := Int.mul_le_mul s1 s2 (by omega) (by omega)
      omega
    have tok1 : True := trivial
    go_cut [] (fun wx => ∃ zs : List Int, zs.length = 8 ∧ Words zs ∧ val64 zs = ((sw a3 a2 a1 a0).natAbs : Int) * ((sw b3 b2 b1 b0).natAbs : Int) ∧ Tm3 w wx [[.int .u64 a3, .int .u64 a2, .int .u64 a1, .int .u64 a0], [.int .u64 b3, .int .u64 b2, .int .u64 b1, .int .u64 b0], [.int .u64 0, .int .u64 0, .int .u64 0, .int .u64 0, .int .u64 0, .int .u64 0, .int .u64 0, .int .u64 0]] g g' gp xs ys zs)
    case first =>
      go_region_held3 (fun _ => True) (trivial)
        (first
          | (go_at_call 42; have _t := tok1; refine (countWords_any g 0 4 4 xs _ HLX.out (by first | exact RX | exact row_drew RX) (by decide)).mono ?_; rintro e w1 ⟨m, rfl, hm, hzm, -, rfl⟩; have hm4 : m ≤ 4 := (by have := HLX.out; omega); have HCX : Hid (val64 (xs.take m) = val64 xs) := val64_cut xs m hm hzm; have SMX := slice4_h g m hm4; clear hm hzm tok1 _t)
          | (go_at_call 42; refine (countWords_any g' 0 4 4 ys _ HLY.out (by first | exact RY | exact row_drew RY) (by decide)).mono ?_; rintro e w2 ⟨n, rfl, hn, hzn, -, rfl⟩; have hn4 : n ≤ 4 := (by have := HLY.out; omega); have HCY : Hid (val64 (ys.take n) = val64 ys) := val64_cut ys n hn hzn; have SMY := slice4_h g' n hn4; clear hn hzn)
          | (go_at_call 61; refine (addProduct_any gp g g' 8 8 m 4 n 4 [0, 0, 0, 0, 0, 0, 0, 0] (xs.take m) (ys.take n) rfl (tm_take HLX.out hm4) (tm_take HLY.out hn4) w80 (words_take HX.out m) (words_take HY.out n) (tm_bound HCX.out HCY.out HVX.out HVY.out HVP.out) (by omega) (by decide) ng ng' _ (by first | exact HS.p | exact HS.p.drew) (by first | exact row_take RX | exact row_take (row_drew RX)) (by first | exact row_take RY | exact row_take (row_drew RY))).mono ?_; rintro e w3 ⟨zs, rfl, hl, wz, hv, hz, hw⟩; (first | (have T1 := HS.wrote hw hz ng ng' hgp) | (have T1 := HS.drew1.wrote hw hz ng ng' hgp)); have hvz := hv.trans (tm_total HCX.out HCY.out HVX.out HVY.out); clear hv hz hw))
      all_goals go_wp2_with fail
      all_goals go_meet
      all_goals first | exact ⟨zs, hl, wz, hvz, T1⟩ | exact ⟨zs, hl, wz, hvz, T1.drew1⟩
    case rest =>
      clear HS RX RY tok1 HVP HVX HVY HLX HLY HX HY
      obtain ⟨zs, hl, wz, hvz, hT⟩ := hcut
      obtain ⟨z0, z1, z2, z3, z4, z5, z6, z7, rfl⟩ := list8 hl
      have HV : Hid (val64 [z0, z1, z2, z3, z4, z5, z6, z7] = ((sw a3 a2 a1 a0).natAbs : Int) * ((sw b3 b2 b1 b0).natAbs : Int)) := hvz
      clear hvz hl
      obtain ⟨pa, hpa⟩ : ∃ b, (a3 / 9223372036854775808 == 1) = b := ⟨_, rfl⟩
      obtain ⟨pb, hpb⟩ : ∃ b, (b3 / 9223372036854775808 == 1) = b := ⟨_, rfl⟩
      have HPA : Hid (pa = decide (sw a3 a2 a1 a0 < 0)) := by show _ = _; rw [← hpa, Bool.eq_iff_iff]; have := sw_neg h3 h2 h1 h0; unfold Word at h3; simp; omega
      have HPB : Hid (pb = decide (sw b3 b2 b1 b0 < 0)) := by show _ = _; rw [← hpb, Bool.eq_iff_iff]; have := sw_neg k3 k2 k1 k0; unfold Word at k3; simp; omega
      have tok1 : True := trivial
      go_upto_region 4 with fail
      go_region_held3 (fun w' => w'.cell? ⟨gp, 0, none⟩ = some (.int .u64 z0) ∧ w'.cell? ⟨gp, 1, none⟩ = some (.int .u64 z1) ∧ w'.cell? ⟨gp, 2, none⟩ = some (.int .u64 z2) ∧ w'.cell? ⟨gp, 3, none⟩ = some (.int .u64 z3) ∧ w'.cell? ⟨gp, 4, none⟩ = some (.int .u64 z4) ∧ w'.cell? ⟨gp, 5, none⟩ = some (.int .u64 z5) ∧ w'.cell? ⟨gp, 6, none⟩ = some (.int .u64 z6) ∧ w'.cell? ⟨gp, 7, none⟩ = some (.int .u64 z7) ∧ w'.cell? ⟨w.heap.size, 0, none⟩ = some (.int .u64 a3) ∧ w'.cell? ⟨w.heap.size, 1, none⟩ = some (.int .u64 a2) ∧ w'.cell? ⟨w.heap.size, 2, none⟩ = some (.int .u64 a1) ∧ w'.cell? ⟨w.heap.size, 3, none⟩ = some (.int .u64 a0) ∧ w'.cell? ⟨w.heap.size + 1, 0, none⟩ = some (.int .u64 b3) ∧ w'.cell? ⟨w.heap.size + 1, 1, none⟩ = some (.int .u64 b2) ∧ w'.cell? ⟨w.heap.size + 1, 2, none⟩ = some (.int .u64 b1) ∧ w'.cell? ⟨w.heap.size + 1, 3, none⟩ = some (.int .u64 b0)) (first | (with_reducible exact tm3_cells hT) | (with_reducible exact tm3_cells hT.drew1) | (with_reducible exact tm3_cells8 hT hgp))
        (first
          | (go_at_call 27; have _t := tok1; refine (isBelow_any a3 a2 a1 a0 h3 pa hpa _).mono ?_; rintro e w1 ⟨rfl, hB⟩; (first | (have T1 := hT.step hB) | (have T1 := hT.drew1.step hB)); clear hT; have hT := T1; clear T1; clear tok1 _t hB)
          | (go_at_call 27; refine (isBelow_any b3 b2 b1 b0 k3 pb hpb _).mono ?_; rintro e w2 ⟨rfl, hB⟩; (first | (have T1 := hT.step hB) | (have T1 := hT.drew1.step hB)); clear hT; have hT := T1; clear T1; clear hB)
          | (go_at_call 39; refine (signed_any z0 z1 z2 z3 z4 z5 z6 z7 _ wz _).mono ?_; rintro e w3 ⟨r0, r1, r2, r3, r4, r5, r6, r7, rfl, wr8, hr8, hB⟩; (first | (have T1 := hT.step hB) | (have T1 := hT.drew1.step hB)); clear hT; have hT := T1; clear T1; have o0 := (hT.args.b 2 rfl).c 0 rfl; have p0 := (hT.args.b 2 rfl).f 0 rfl; have o1 := (hT.args.b 2 rfl).c 1 rfl; have p1 := (hT.args.b 2 rfl).f 1 rfl; have o2 := (hT.args.b 2 rfl).c 2 rfl; have p2 := (hT.args.b 2 rfl).f 2 rfl; have o3 := (hT.args.b 2 rfl).c 3 rfl; have p3 := (hT.args.b 2 rfl).f 3 rfl; have o4 := (hT.args.b 2 rfl).c 4 rfl; have p4 := (hT.args.b 2 rfl).f 4 rfl; have o5 := (hT.args.b 2 rfl).c 5 rfl; have p5 := (hT.args.b 2 rfl).f 5 rfl; have o6 := (hT.args.b 2 rfl).c 6 rfl; have p6 := (hT.args.b 2 rfl).f 6 rfl; have o7 := (hT.args.b 2 rfl).c 7 rfl; have p7 := (hT.args.b 2 rfl).f 7 rfl; have olt := (hT.args.b 2 rfl).lt; clear hB))
      all_goals have HB := hT.args.below
      all_goals have HR := sl_signed wr8 (sw_size h3 h2 h1 h0) (sw_size k3 k2 k1 k0) HV.out (by rw [HPA.out, HPB.out]; rfl) hr8
      all_goals clear hr8 hT
      all_goals go_wp2
      all_goals refine bodyPost_ret (v := L8 r0 r1 r2 r3 r4 r5 r6 r7) (by simp [results, Try.results32, go_sem, o0, o1, o2, o3, o4, o5, o6, o7]) rfl ?_
      all_goals refine ⟨r0, r1, r2, r3, r4, r5, r6, r7, rfl, wr8, HR, ?_⟩
      all_goals repeat' (refine Below.setCell ?_ (by simp; try omega) _)
      all_goals exact HB
end Go.Proofs.Ytllfpnnngdphfaa

/- The walk of the program's product of four words, told as four. -/
namespace Go.Proofs.Ytllfpnnngdphfaa
open Go.RowKit
theorem im_args (a3 a2 a1 a0 b3 b2 b1 b0 : Int) (w : World) : ArgsB w (((w.alloc (.cells #[.int .u64 a3, .int .u64 a2, .int .u64 a1, .int .u64 a0] 26)).alloc (.cells #[.int .u64 b3, .int .u64 b2, .int .u64 b1, .int .u64 b0] 26)).alloc (.cells #[.int .u64 0, .int .u64 0, .int .u64 0, .int .u64 0] 26)) [[.int .u64 a3, .int .u64 a2, .int .u64 a1, .int .u64 a0], [.int .u64 b3, .int .u64 b2, .int .u64 b1, .int .u64 b0], [.int .u64 0, .int .u64 0, .int .u64 0, .int .u64 0]] := by
  refine ⟨(((Below.refl _ _).alloc (Nat.le_refl _) _).alloc (by simp) _).alloc (by simp; omega) _, fun j vs hj => ?_⟩
  match j, hj with
  | 0, hj => cases hj; exact ((Blk.new w [.int .u64 a3, .int .u64 a2, .int .u64 a1, .int .u64 a0] 26 rfl).alloc _).alloc _
  | 1, hj => cases hj; exact (Blk.new (w.alloc (.cells #[.int .u64 a3, .int .u64 a2, .int .u64 a1, .int .u64 a0] 26)) [.int .u64 b3, .int .u64 b2, .int .u64 b1, .int .u64 b0] 26 (by simp)).alloc _
  | 2, hj => cases hj; exact Blk.new ((w.alloc (.cells #[.int .u64 a3, .int .u64 a2, .int .u64 a1, .int .u64 a0] 26)).alloc (.cells #[.int .u64 b3, .int .u64 b2, .int .u64 b1, .int .u64 b0] 26)) [.int .u64 0, .int .u64 0, .int .u64 0, .int .u64 0] 26 (by simp)
  | j + 3, hj => simp at hj
set_option maxRecDepth 100000 in
set_option maxHeartbeats 1000000 in
theorem implMul_any (a3 a2 a1 a0 b3 b2 b1 b0 : Int) (h3 : Word a3) (h2 : Word a2) (h1 : Word a1) (h0 : Word a0) (k3 : Word b3) (k2 : Word b2) (k1 : Word b1) (k0 : Word b0) (w : World) :
    Calls Try.prog 10 #[.agg #[.int .u64 a3, .int .u64 a2, .int .u64 a1, .int .u64 a0], .agg #[.int .u64 b3, .int .u64 b2, .int .u64 b1, .int .u64 b0]] w (TellP (sw a3 a2 a1 a0 * sw b3 b2 b1 b0) w) := by
  have T0 := im_args a3 a2 a1 a0 b3 b2 b1 b0 w
  go_enter Try.func10, Try.ntmps10
  go_wp2_with fail
  refine (times_any a3 a2 a1 a0 b3 b2 b1 b0 h3 h2 h1 h0 k3 k2 k1 k0 _).mono ?_
  rintro e w1 ⟨z0, z1, z2, z3, z4, z5, z6, z7, rfl, wz, hz, hB⟩
  replace T0 := T0.step hB
  clear hB
  go_wp2_with fail
  refine (tellWide_any z0 z1 z2 z3 z4 z5 z6 z7 wz _).mono ?_
  intro e w2 hT
  have hTT := tellP_from T0.below hT
  replace T0 := T0.step hT.1
  obtain ⟨x3, x2, x1, x0, p, rfl⟩ := tellP_shape hT
  have c0 := (T0.b 2 rfl).c 0 rfl; have f0 := (T0.b 2 rfl).f 0 rfl; have c1 := (T0.b 2 rfl).c 1 rfl; have f1 := (T0.b 2 rfl).f 1 rfl; have c2 := (T0.b 2 rfl).c 2 rfl; have f2 := (T0.b 2 rfl).f 2 rfl; have c3 := (T0.b 2 rfl).c 3 rfl; have f3 := (T0.b 2 rfl).f 3 rfl
  have lt := (T0.b 2 rfl).lt
  rw [hz] at hTT
  clear hT T0 hz wz
  go_wp2
  refine bodyPost_ret (v := .tuple #[.agg #[.int .u64 x3, .int .u64 x2, .int .u64 x1, .int .u64 x0], .bool p]) (by simp [results, Try.results10, go_sem, c0, c1, c2, c3]) rfl ?_
  exact tellP_set (by omega) hTT
end Go.Proofs.Ytllfpnnngdphfaa

/- The walks of the model's sum, difference and negation of four words. -/
namespace Go.Proofs.Ytllfpnnngdphfaa
open Go.RowKit
set_option maxRecDepth 100000 in
set_option maxHeartbeats 2000000 in
theorem specAdd_any (a3 a2 a1 a0 b3 b2 b1 b0 : Int) (h3 : Word a3) (h2 : Word a2) (h1 : Word a1) (h0 : Word a0) (k3 : Word b3) (k2 : Word b2) (k1 : Word b1) (k0 : Word b0) (w : World) :
    Calls Try.prog 9 #[.agg #[.int .u64 a3, .int .u64 a2, .int .u64 a1, .int .u64 a0], .agg #[.int .u64 b3, .int .u64 b2, .int .u64 b1, .int .u64 b0]] w (TellP (sw a3 a2 a1 a0 + sw b3 b2 b1 b0) w) := by
  have T0 := ((twoW_start w a3 a2 a1 a0 b3 b2 b1 b0 26).alloc (Obj.cells #[Value.int IntKind.u64 0, Value.int IntKind.u64 0, Value.int IntKind.u64 0, Value.int IntKind.u64 0] 26)).drew
  have R0 : Wd _ (w.heap.size + 1 + 1) 0 0 0 0 := (Wd.new ((w.alloc (Obj.cells #[Value.int IntKind.u64 a3, Value.int IntKind.u64 a2, Value.int IntKind.u64 a1, Value.int IntKind.u64 a0] 26)).alloc (Obj.cells #[Value.int IntKind.u64 b3, Value.int IntKind.u64 b2, Value.int IntKind.u64 b1, Value.int IntKind.u64 b0] 26)) 0 0 0 0 26 (by simp)).drew
  have tok1 : True := trivial
  go_enter Try.func9, Try.ntmps9
  go_wp2
  generalize ((w.alloc (Obj.cells #[Value.int IntKind.u64 a3, Value.int IntKind.u64 a2, Value.int IntKind.u64 a1, Value.int IntKind.u64 a0] 26)).alloc (Obj.cells #[Value.int IntKind.u64 b3, Value.int IntKind.u64 b2, Value.int IntKind.u64 b1, Value.int IntKind.u64 b0] 26)).alloc (Obj.cells #[Value.int IntKind.u64 0, Value.int IntKind.u64 0, Value.int IntKind.u64 0, Value.int IntKind.u64 0] 26) = W at *
  go_region_held3 (fun w' => w'.cell? ⟨w.heap.size, 0, none⟩ = some (.int .u64 a3) ∧ w'.cell? ⟨w.heap.size, 1, none⟩ = some (.int .u64 a2) ∧ w'.cell? ⟨w.heap.size, 2, none⟩ = some (.int .u64 a1) ∧ w'.cell? ⟨w.heap.size, 3, none⟩ = some (.int .u64 a0) ∧ w'.cell? ⟨w.heap.size + 1, 0, none⟩ = some (.int .u64 b3) ∧ w'.cell? ⟨w.heap.size + 1, 1, none⟩ = some (.int .u64 b2) ∧ w'.cell? ⟨w.heap.size + 1, 2, none⟩ = some (.int .u64 b1) ∧ w'.cell? ⟨w.heap.size + 1, 3, none⟩ = some (.int .u64 b0)) (first | exact T0.cells | exact (T0.set (by omega) _ _ _ _).cells | exact (T0.set (by omega) _ _ _ _).drew.cells)
    (first
      | (go_at_call 30; have _t := tok1; refine (from_any a3 a2 a1 a0 h3 h2 h1 h0 _).mono ?_; rintro e w1 ⟨s1, ao1, n1, c1, ds1, rfl, N1, hB1⟩; replace T0 := T0.step hB1; replace R0 := R0.step hB1; clear tok1 _t hB1)
      | (go_at_call 30; refine (from_any b3 b2 b1 b0 k3 k2 k1 k0 _).mono ?_; rintro e w2 ⟨s2, ao2, n2, c2, ds2, rfl, N2, hB2⟩; replace T0 := T0.step hB2; replace R0 := R0.step hB2; replace N1 := N1.below hB2; clear hB2)
      | (go_at_call 29; refine (add_any s1 s2 ao1 ao2 n1 n2 c1 c2 8 ds1 ds2 _ _ _ N1 N2 (by omega)).mono ?_; rintro e w3 ⟨s3, ao3, n3, c3, ds3, rfl, N3, hB3⟩; replace T0 := T0.step hB3; replace R0 := R0.step hB3; clear hB3 N1 N2)
      | (go_at_call 28; refine (toW_any s3 ao3 n3 c3 ds3 _ 9 _ N3 (by omega)).mono ?_; intro e w4 hT; have hBB := T0.below; have hTT := tellP_from hBB hT; replace T0 := T0.step hT.1; replace R0 := R0.step hT.1; obtain ⟨x3, x2, x1, x0, p, rfl⟩ := tellP_shape hT; have r0 := R0.c0; have r1 := R0.c1; have r2 := R0.c2; have r3 := R0.c3; have f0 := R0.f0; have f1 := R0.f1; have f2 := R0.f2; have f3 := R0.f3; clear hT N3 hBB))
  all_goals go_wp2
  all_goals refine bodyPost_ret (v := .tuple #[.agg #[.int .u64 x3, .int .u64 x2, .int .u64 x1, .int .u64 x0], .bool p]) (by simp [results, Try.results9, go_sem, r0, r1, r2, r3]) rfl ?_
  all_goals first | exact tellP_set (by omega) hTT | exact tellP_drew (tellP_set (by omega) hTT)
end Go.Proofs.Ytllfpnnngdphfaa

/- Numbers that are told, and laws of drawn numbers: what their walks have in common. -/
namespace Go.Proofs.Ytllfpnnngdphfaa
open Go.RowKit
theorem tell_words4 {z : Int} {w w' : World} {e : Ending} (h : TellP z w e w') : ∃ a3 a2 a1 a0 b, e = .returned (.tuple #[.agg #[.int .u64 a3, .int .u64 a2, .int .u64 a1, .int .u64 a0], .bool b]) ∧ (Word a3 ∧ Word a2 ∧ Word a1 ∧ Word a0) ∧ Below w.heap.size w w' := by
  obtain ⟨a3, a2, a1, a0, b, e, h3, h2, h1, h0, hB⟩ := tell_words h
  exact ⟨a3, a2, a1, a0, b, e, ⟨h3, h2, h1, h0⟩, hB⟩
theorem tell_yes {z : Int} {w w' : World} {a3 a2 a1 a0 : Int} (h : TellP z w (.returned (.tuple #[.agg #[.int .u64 a3, .int .u64 a2, .int .u64 a1, .int .u64 a0], .bool true])) w') : told z = true ∧ sw a3 a2 a1 a0 = z := by
  obtain ⟨_, ⟨ht, b3, b2, b1, b0, e, _, _, _, _, hs⟩ | ⟨_, e⟩⟩ := h
  · simp at e
    obtain ⟨rfl, rfl, rfl, rfl⟩ := e
    exact ⟨ht, hs⟩
  · simp at e
theorem tell_no {z : Int} {w w' : World} {a3 a2 a1 a0 : Int} (h : TellP z w (.returned (.tuple #[.agg #[.int .u64 a3, .int .u64 a2, .int .u64 a1, .int .u64 a0], .bool false])) w') : told z = false ∧ True := by
  obtain ⟨_, ⟨_, b3, b2, b1, b0, e, _⟩ | ⟨ht, _⟩⟩ := h
  · simp at e
  · exact ⟨ht, trivial⟩
theorem told_sw {a3 a2 a1 a0 : Int} (h : Word a3 ∧ Word a2 ∧ Word a1 ∧ Word a0) : told (sw a3 a2 a1 a0) = true := by
  obtain ⟨h3, h2, h1, h0⟩ := h
  unfold told
  apply decide_eq_true
  unfold Word sw uw at *
  split <;> omega
/-- A number that is told as these words. -/
theorem tell_back {z : Int} {w w' : World} {a3 a2 a1 a0 b3 b2 b1 b0 : Int} {b : Bool} (h : TellP z w (.returned (.tuple #[.agg #[.int .u64 b3, .int .u64 b2, .int .u64 b1, .int .u64 b0], .bool b])) w') (ha : Word a3 ∧ Word a2 ∧ Word a1 ∧ Word a0) (hz : z = sw a3 a2 a1 a0) : a3 = b3 ∧ a2 = b2 ∧ a1 = b1 ∧ a0 = b0 ∧ true = b := by
  subst hz
  obtain ⟨_, ⟨_, c3, c2, c1, c0, e, g3, g2, g1, g0, hs⟩ | ⟨ht, _⟩⟩ := h
  · simp at e
    obtain ⟨⟨rfl, rfl, rfl, rfl⟩, rfl⟩ := e
    obtain ⟨rfl, rfl, rfl, rfl⟩ := sw_inj g3 g2 g1 g0 ha.1 ha.2.1 ha.2.2.1 ha.2.2.2 hs
    exact ⟨rfl, rfl, rfl, rfl, rfl⟩
  · rw [told_sw ha] at ht; cases ht
theorem big_any (ao : Option Addr) (n cap : Nat) (w : World) (z : Bool) (hz : decide (1048576 < n) = z) : Calls Try.prog 6 #[.slice ao n cap] w (BoolP z w) := by
  subst hz
  go_enter Try.func6, Try.ntmps6
  go_wp2
  go_ret
  exact ⟨by simp; try omega, Below.refl _ _⟩
end Go.Proofs.Ytllfpnnngdphfaa
