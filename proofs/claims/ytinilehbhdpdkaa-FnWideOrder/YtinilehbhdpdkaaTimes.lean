/- The walk of the program's product of two numbers of four words. -/
import Derived.Test.YtinilehbhdpdkaaTimesC
import Derived.Deep.QuietTactic
import Derived.BigQuiet
namespace Go.Proofs.Ytinilehbhdpdkaa
open Go.RowKit
def TimesP (z : Int) (w : World) (e : Ending) (w' : World) : Prop :=
  ∃ z0 z1 z2 z3 z4 z5 z6 z7, e = .returned (L8 z0 z1 z2 z3 z4 z5 z6 z7) ∧ Words [z0, z1, z2, z3, z4, z5, z6, z7] ∧ sl z0 z1 z2 z3 z4 z5 z6 z7 = z ∧ Below w.heap.size w w'
structure Tm3 (w wr : World) (vss : List (List Value)) (g g' gp : Nat) (xs ys zs : List Int) : Prop where
  args : ArgsB w wr vss
  x : Blk wr g (xs.map (Value.int .u64))
  y : Blk wr g' (ys.map (Value.int .u64))
  p : Blk wr gp (zs.map (Value.int .u64))
theorem Tm3.drew {w wr : World} {vss : List (List Value)} {g g' gp : Nat} {xs ys zs : List Int} (h : Tm3 w wr vss g g' gp xs ys zs) (n : Nat) : Tm3 w (wr.drewN n) vss g g' gp xs ys zs := ⟨⟨bdrew h.args.1 n, h.args.2⟩, h.x, h.y, h.p⟩
theorem Tm3.set {w wr : World} {vss : List (List Value)} {g g' gp : Nat} {xs ys zs : List Int} (h : Tm3 w wr vss g g' gp xs ys zs) (h1 : g ≠ gp) (h2 : g' ≠ gp) (hg : w.heap.size + vss.length ≤ gp) (j : Nat) (hj : j < zs.length) (u : Int) : Tm3 w (wr.setCell ⟨gp, j, none⟩ (.int .u64 u)) vss g g' gp xs ys (zs.set j u) :=
  ⟨h.args.set hg _, h.x.setO h1 _, h.y.setO h2 _, by have := h.p.setI j (by simpa using hj) (.int .u64 u); rwa [← List.map_set] at this⟩
theorem Tm3.cx {w wr : World} {vss : List (List Value)} {g g' gp : Nat} {xs ys zs : List Int} (h : Tm3 w wr vss g g' gp xs ys zs) (j : Nat) (hj : j < xs.length) : wr.cell? ⟨g, j, none⟩ = some (.int .u64 xs[j]) := h.x.c j (by simp [hj])
theorem Tm3.cy {w wr : World} {vss : List (List Value)} {g g' gp : Nat} {xs ys zs : List Int} (h : Tm3 w wr vss g g' gp xs ys zs) (j : Nat) (hj : j < ys.length) : wr.cell? ⟨g', j, none⟩ = some (.int .u64 ys[j]) := h.y.c j (by simp [hj])
theorem Tm3.cp {w wr : World} {vss : List (List Value)} {g g' gp : Nat} {xs ys zs : List Int} (h : Tm3 w wr vss g g' gp xs ys zs) (j : Nat) (hj : j < zs.length) : wr.cell? ⟨gp, j, none⟩ = some (.int .u64 zs[j]) ∧ wr.frozen? ⟨gp, j, none⟩ = false := ⟨h.p.c j (by simp [hj]), h.p.f j (v := .int .u64 zs[j]) (by simp [hj])⟩
theorem mul64n (x y hi lo : Int) (hx : Word x) (hy : Word y) (h1 : x * y / 18446744073709551616 = hi) (h2 : x * y % 18446744073709551616 = lo) (w : World) : Calls Try.prog 46 #[.int .u64 x, .int .u64 y] w (fun e w' => e = .returned (.tuple #[.int .u64 hi, .int .u64 lo]) ∧ w' = w) := by
  refine (mul64 x y hx hy w).mono ?_
  rintro e w' ⟨rfl, rfl⟩
  rw [h1, h2]
  exact ⟨rfl, rfl⟩
theorem add64n (x y s c : Int) (hx : Word x) (hy : Word y) (h1 : (x + y) % 18446744073709551616 = s) (h2 : (x + y) / 18446744073709551616 = c) (w : World) : (callFunc 47 #[.int .u64 x, .int .u64 y, .int .u64 0]).run Try.prog w = .ok (.value (.tuple #[.int .u64 s, .int .u64 c])) w := by
  rw [add64 x y 0 hx hy (by decide) (by decide) w, Int.add_zero, h1, h2]
theorem Tm3.step {w wr wr' : World} {vss : List (List Value)} {g g' gp : Nat} {xs ys zs : List Int} (h : Tm3 w wr vss g g' gp xs ys zs) (hB : Below wr.heap.size wr wr') : Tm3 w wr' vss g g' gp xs ys zs := ⟨h.args.step hB, h.x.step hB, h.y.step hB, h.p.step hB⟩
theorem Tm3.drew1 {w wr : World} {vss : List (List Value)} {g g' gp : Nat} {xs ys zs : List Int} (h : Tm3 w wr vss g g' gp xs ys zs) : Tm3 w wr.drew vss g g' gp xs ys zs := ⟨h.args.drew, h.x.drew, h.y.drew, h.p.drew⟩
theorem tm3_cells {a3 a2 a1 a0 b3 b2 b1 b0 z0 z1 z2 z3 z4 z5 z6 z7 : Int} {w W : World} {g g' gp : Nat} {xs ys : List Int} (h : Tm3 w W [[.int .u64 a3, .int .u64 a2, .int .u64 a1, .int .u64 a0], [.int .u64 b3, .int .u64 b2, .int .u64 b1, .int .u64 b0], [.int .u64 0, .int .u64 0, .int .u64 0, .int .u64 0, .int .u64 0, .int .u64 0, .int .u64 0, .int .u64 0]] g g' gp xs ys [z0, z1, z2, z3, z4, z5, z6, z7]) : (fun w' => w'.cell? ⟨gp, 0, none⟩ = some (.int .u64 z0) ∧ w'.cell? ⟨gp, 1, none⟩ = some (.int .u64 z1) ∧ w'.cell? ⟨gp, 2, none⟩ = some (.int .u64 z2) ∧ w'.cell? ⟨gp, 3, none⟩ = some (.int .u64 z3) ∧ w'.cell? ⟨gp, 4, none⟩ = some (.int .u64 z4) ∧ w'.cell? ⟨gp, 5, none⟩ = some (.int .u64 z5) ∧ w'.cell? ⟨gp, 6, none⟩ = some (.int .u64 z6) ∧ w'.cell? ⟨gp, 7, none⟩ = some (.int .u64 z7) ∧ w'.cell? ⟨w.heap.size, 0, none⟩ = some (.int .u64 a3) ∧ w'.cell? ⟨w.heap.size, 1, none⟩ = some (.int .u64 a2) ∧ w'.cell? ⟨w.heap.size, 2, none⟩ = some (.int .u64 a1) ∧ w'.cell? ⟨w.heap.size, 3, none⟩ = some (.int .u64 a0) ∧ w'.cell? ⟨w.heap.size + 1, 0, none⟩ = some (.int .u64 b3) ∧ w'.cell? ⟨w.heap.size + 1, 1, none⟩ = some (.int .u64 b2) ∧ w'.cell? ⟨w.heap.size + 1, 2, none⟩ = some (.int .u64 b1) ∧ w'.cell? ⟨w.heap.size + 1, 3, none⟩ = some (.int .u64 b0)) W :=
  ⟨h.p.c 0 rfl, h.p.c 1 rfl, h.p.c 2 rfl, h.p.c 3 rfl, h.p.c 4 rfl, h.p.c 5 rfl, h.p.c 6 rfl, h.p.c 7 rfl, (h.args.b 0 rfl).c 0 rfl, (h.args.b 0 rfl).c 1 rfl, (h.args.b 0 rfl).c 2 rfl, (h.args.b 0 rfl).c 3 rfl, (h.args.b 1 rfl).c 0 rfl, (h.args.b 1 rfl).c 1 rfl, (h.args.b 1 rfl).c 2 rfl, (h.args.b 1 rfl).c 3 rfl⟩
theorem tm3_cells8 {a3 a2 a1 a0 b3 b2 b1 b0 z0 z1 z2 z3 z4 z5 z6 z7 : Int} {w W : World} {g g' gp : Nat} {xs ys : List Int} {v0 v1 v2 v3 v4 v5 v6 v7 : Value} (h : Tm3 w W [[.int .u64 a3, .int .u64 a2, .int .u64 a1, .int .u64 a0], [.int .u64 b3, .int .u64 b2, .int .u64 b1, .int .u64 b0], [.int .u64 0, .int .u64 0, .int .u64 0, .int .u64 0, .int .u64 0, .int .u64 0, .int .u64 0, .int .u64 0]] g g' gp xs ys [z0, z1, z2, z3, z4, z5, z6, z7]) (hg : w.heap.size + 2 < gp) : (fun w' => w'.cell? ⟨gp, 0, none⟩ = some (.int .u64 z0) ∧ w'.cell? ⟨gp, 1, none⟩ = some (.int .u64 z1) ∧ w'.cell? ⟨gp, 2, none⟩ = some (.int .u64 z2) ∧ w'.cell? ⟨gp, 3, none⟩ = some (.int .u64 z3) ∧ w'.cell? ⟨gp, 4, none⟩ = some (.int .u64 z4) ∧ w'.cell? ⟨gp, 5, none⟩ = some (.int .u64 z5) ∧ w'.cell? ⟨gp, 6, none⟩ = some (.int .u64 z6) ∧ w'.cell? ⟨gp, 7, none⟩ = some (.int .u64 z7) ∧ w'.cell? ⟨w.heap.size, 0, none⟩ = some (.int .u64 a3) ∧ w'.cell? ⟨w.heap.size, 1, none⟩ = some (.int .u64 a2) ∧ w'.cell? ⟨w.heap.size, 2, none⟩ = some (.int .u64 a1) ∧ w'.cell? ⟨w.heap.size, 3, none⟩ = some (.int .u64 a0) ∧ w'.cell? ⟨w.heap.size + 1, 0, none⟩ = some (.int .u64 b3) ∧ w'.cell? ⟨w.heap.size + 1, 1, none⟩ = some (.int .u64 b2) ∧ w'.cell? ⟨w.heap.size + 1, 2, none⟩ = some (.int .u64 b1) ∧ w'.cell? ⟨w.heap.size + 1, 3, none⟩ = some (.int .u64 b0)) ((((((((W.setCell ⟨w.heap.size + 1 + 1, 0, none⟩ v0).setCell ⟨w.heap.size + 1 + 1, 1, none⟩ v1).setCell ⟨w.heap.size + 1 + 1, 2, none⟩ v2).setCell ⟨w.heap.size + 1 + 1, 3, none⟩ v3).setCell ⟨w.heap.size + 1 + 1, 4, none⟩ v4).setCell ⟨w.heap.size + 1 + 1, 5, none⟩ v5).setCell ⟨w.heap.size + 1 + 1, 6, none⟩ v6).setCell ⟨w.heap.size + 1 + 1, 7, none⟩ v7) := by
  have p : Blk _ gp _ := ((((((((h.p.setO (p := ⟨w.heap.size + 1 + 1, 0, none⟩) (by show gp ≠ w.heap.size + 1 + 1; omega) v0).setO (p := ⟨w.heap.size + 1 + 1, 1, none⟩) (by show gp ≠ w.heap.size + 1 + 1; omega) v1).setO (p := ⟨w.heap.size + 1 + 1, 2, none⟩) (by show gp ≠ w.heap.size + 1 + 1; omega) v2).setO (p := ⟨w.heap.size + 1 + 1, 3, none⟩) (by show gp ≠ w.heap.size + 1 + 1; omega) v3).setO (p := ⟨w.heap.size + 1 + 1, 4, none⟩) (by show gp ≠ w.heap.size + 1 + 1; omega) v4).setO (p := ⟨w.heap.size + 1 + 1, 5, none⟩) (by show gp ≠ w.heap.size + 1 + 1; omega) v5).setO (p := ⟨w.heap.size + 1 + 1, 6, none⟩) (by show gp ≠ w.heap.size + 1 + 1; omega) v6).setO (p := ⟨w.heap.size + 1 + 1, 7, none⟩) (by show gp ≠ w.heap.size + 1 + 1; omega) v7)
  have a : Blk _ (w.heap.size + 0) _ := (((((((((h.args.b 0 rfl).setO (p := ⟨w.heap.size + 1 + 1, 0, none⟩) (by show w.heap.size + 0 ≠ w.heap.size + 1 + 1; omega) v0).setO (p := ⟨w.heap.size + 1 + 1, 1, none⟩) (by show w.heap.size + 0 ≠ w.heap.size + 1 + 1; omega) v1).setO (p := ⟨w.heap.size + 1 + 1, 2, none⟩) (by show w.heap.size + 0 ≠ w.heap.size + 1 + 1; omega) v2).setO (p := ⟨w.heap.size + 1 + 1, 3, none⟩) (by show w.heap.size + 0 ≠ w.heap.size + 1 + 1; omega) v3).setO (p := ⟨w.heap.size + 1 + 1, 4, none⟩) (by show w.heap.size + 0 ≠ w.heap.size + 1 + 1; omega) v4).setO (p := ⟨w.heap.size + 1 + 1, 5, none⟩) (by show w.heap.size + 0 ≠ w.heap.size + 1 + 1; omega) v5).setO (p := ⟨w.heap.size + 1 + 1, 6, none⟩) (by show w.heap.size + 0 ≠ w.heap.size + 1 + 1; omega) v6).setO (p := ⟨w.heap.size + 1 + 1, 7, none⟩) (by show w.heap.size + 0 ≠ w.heap.size + 1 + 1; omega) v7)
  have b : Blk _ (w.heap.size + 1) _ := (((((((((h.args.b 1 rfl).setO (p := ⟨w.heap.size + 1 + 1, 0, none⟩) (by show w.heap.size + 1 ≠ w.heap.size + 1 + 1; omega) v0).setO (p := ⟨w.heap.size + 1 + 1, 1, none⟩) (by show w.heap.size + 1 ≠ w.heap.size + 1 + 1; omega) v1).setO (p := ⟨w.heap.size + 1 + 1, 2, none⟩) (by show w.heap.size + 1 ≠ w.heap.size + 1 + 1; omega) v2).setO (p := ⟨w.heap.size + 1 + 1, 3, none⟩) (by show w.heap.size + 1 ≠ w.heap.size + 1 + 1; omega) v3).setO (p := ⟨w.heap.size + 1 + 1, 4, none⟩) (by show w.heap.size + 1 ≠ w.heap.size + 1 + 1; omega) v4).setO (p := ⟨w.heap.size + 1 + 1, 5, none⟩) (by show w.heap.size + 1 ≠ w.heap.size + 1 + 1; omega) v5).setO (p := ⟨w.heap.size + 1 + 1, 6, none⟩) (by show w.heap.size + 1 ≠ w.heap.size + 1 + 1; omega) v6).setO (p := ⟨w.heap.size + 1 + 1, 7, none⟩) (by show w.heap.size + 1 ≠ w.heap.size + 1 + 1; omega) v7)
  exact ⟨p.c 0 rfl, p.c 1 rfl, p.c 2 rfl, p.c 3 rfl, p.c 4 rfl, p.c 5 rfl, p.c 6 rfl, p.c 7 rfl, a.c 0 rfl, a.c 1 rfl, a.c 2 rfl, a.c 3 rfl, b.c 0 rfl, b.c 1 rfl, b.c 2 rfl, b.c 3 rfl⟩
theorem sl_top {z0 z1 z2 z3 z4 z5 z6 z7 : Int} (h : Words [z0, z1, z2, z3, z4, z5, z6, z7]) : (z7 < 9223372036854775808 ↔ val64 [z0, z1, z2, z3, z4, z5, z6, z7] < 6703903964971298549787012499102923063739682910296196688861780721860882015036773488400937149083451713845015929093243025426876941405973284973216824503042048) ∧ 0 ≤ val64 [z0, z1, z2, z3, z4, z5, z6, z7] ∧ val64 [z0, z1, z2, z3, z4, z5, z6, z7] < 13407807929942597099574024998205846127479365820592393377723561443721764030073546976801874298166903427690031858186486050853753882811946569946433649006084096 := by
  obtain ⟨h0, h1, h2, h3, h4, h5, h6, h7⟩ := words8_of h
  unfold Word at *
  simp only [val64]
  omega
theorem nat_abs_cases (A : Int) : (0 ≤ A ∧ (A.natAbs : Int) = A) ∨ (A < 0 ∧ (A.natAbs : Int) = -A) := by omega
theorem sl_signed {z0 z1 z2 z3 z4 z5 z6 z7 A B V : Int} {b : Bool} (h : Words [z0, z1, z2, z3, z4, z5, z6, z7]) (hA : (A.natAbs : Int) ≤ 57896044618658097711785492504343953926634992332820282019728792003956564819968) (hB : (B.natAbs : Int) ≤ 57896044618658097711785492504343953926634992332820282019728792003956564819968) (hV : V = (A.natAbs : Int) * (B.natAbs : Int)) (hb : b = (decide (A < 0) != decide (B < 0)))
    (hz : ∃ c, 0 ≤ c ∧ c ≤ 1 ∧ val64 [z0, z1, z2, z3, z4, z5, z6, z7] = if b then 0 - V + c * 13407807929942597099574024998205846127479365820592393377723561443721764030073546976801874298166903427690031858186486050853753882811946569946433649006084096 else V) : sl z0 z1 z2 z3 z4 z5 z6 z7 = A * B := by
  obtain ⟨t1, t2, t3⟩ := sl_top h
  obtain ⟨c, c0, c1, hv⟩ := hz
  have m0 : 0 ≤ V := by rw [hV]; exact Int.mul_nonneg (by omega) (by omega)
  have m1 : V ≤ 3351951982485649274893506249551461531869841455148098344430890360930441007518386744200468574541725856922507964546621512713438470702986642486608412251521024 := by
    rw [hV]
    have h1 : (A.natAbs : Int) * (B.natAbs : Int) ≤ 57896044618658097711785492504343953926634992332820282019728792003956564819968 * (B.natAbs : Int) := Int.mul_le_mul_of_nonneg_right hA (by omega)
    omega
  have e : A * B = if b then -V else V := by
    rw [hV, hb]
    rcases nat_abs_cases A with ⟨p, e1⟩ | ⟨p, e1⟩ <;> rcases nat_abs_cases B with ⟨q, e2⟩ | ⟨q, e2⟩ <;> rw [e1, e2]
    · simp [show ¬ A < 0 by omega, show ¬ B < 0 by omega]
    · simp [show ¬ A < 0 by omega, q, Int.mul_neg]
    · simp [p, show ¬ B < 0 by omega, Int.neg_mul]
    · simp [p, q, Int.neg_mul, Int.mul_neg]
  unfold sl
  generalize val64 [z0, z1, z2, z3, z4, z5, z6, z7] = U at *
  rw [e]
  clear hV e hb
  obtain rfl | rfl : c = 0 ∨ c = 1 := by omega
  · cases b
    · simp only [Bool.false_eq_true, if_false] at hv ⊢
      rw [if_pos (t1.2 (by omega))]; omega
    · simp only [if_true] at hv ⊢
      rw [if_pos (t1.2 (by omega))]; omega
  · cases b
    · simp only [Bool.false_eq_true, if_false] at hv ⊢
      rw [if_pos (t1.2 (by omega))]; omega
    · simp only [if_true] at hv ⊢
      rw [if_neg (by rw [t1]; omega)]; omega
set_option maxRecDepth 100000 in
set_option maxHeartbeats 4000000 in
theorem times_any (a3 a2 a1 a0 b3 b2 b1 b0 : Int) (h3 : Word a3) (h2 : Word a2) (h1 : Word a1) (h0 : Word a0) (k3 : Word b3) (k2 : Word b2) (k1 : Word b1) (k0 : Word b0) (w : World) :
    Calls Try.prog 27 #[.agg #[.int .u64 a3, .int .u64 a2, .int .u64 a1, .int .u64 a0], .agg #[.int .u64 b3, .int .u64 b2, .int .u64 b1, .int .u64 b0]] w (TimesP (sw a3 a2 a1 a0 * sw b3 b2 b1 b0) w) := by
  obtain ⟨x3, x2, x1, x0, e3, e2, e1, e0, hx⟩ := size_words ((sw a3 a2 a1 a0).natAbs : Int) (by omega) (by have := sw_size h3 h2 h1 h0; omega)
  obtain ⟨y3, y2, y1, y0, f3, f2, f1, f0, hy⟩ := size_words ((sw b3 b2 b1 b0).natAbs : Int) (by omega) (by have := sw_size k3 k2 k1 k0; omega)
  have T0 := tm_args a3 a2 a1 a0 b3 b2 b1 b0 w
  have tok1 : True := trivial
  go_enter Try.func27, Try.ntmps27
  go_upto_region 1 with fail
  generalize (((w.alloc (.cells #[.int .u64 a3, .int .u64 a2, .int .u64 a1, .int .u64 a0] 26)).alloc (.cells #[.int .u64 b3, .int .u64 b2, .int .u64 b1, .int .u64 b0] 26)).alloc (.cells #[.int .u64 0, .int .u64 0, .int .u64 0, .int .u64 0, .int .u64 0, .int .u64 0, .int .u64 0, .int .u64 0] 52)) = W at *
  go_cut [5, 6] (fun p q wx => CutT w wx [[.int .u64 a3, .int .u64 a2, .int .u64 a1, .int .u64 a0], [.int .u64 b3, .int .u64 b2, .int .u64 b1, .int .u64 b0], [.int .u64 0, .int .u64 0, .int .u64 0, .int .u64 0, .int .u64 0, .int .u64 0, .int .u64 0, .int .u64 0]] [.int .u64 x0, .int .u64 x1, .int .u64 x2, .int .u64 x3] [.int .u64 y0, .int .u64 y1, .int .u64 y2, .int .u64 y3] p q)
  case first =>
    go_region_held3 (fun w' => w'.cell? ⟨w.heap.size, 0, none⟩ = some (.int .u64 a3) ∧ w'.cell? ⟨w.heap.size, 1, none⟩ = some (.int .u64 a2) ∧ w'.cell? ⟨w.heap.size, 2, none⟩ = some (.int .u64 a1) ∧ w'.cell? ⟨w.heap.size, 3, none⟩ = some (.int .u64 a0) ∧ w'.cell? ⟨w.heap.size + 1, 0, none⟩ = some (.int .u64 b3) ∧ w'.cell? ⟨w.heap.size + 1, 1, none⟩ = some (.int .u64 b2) ∧ w'.cell? ⟨w.heap.size + 1, 2, none⟩ = some (.int .u64 b1) ∧ w'.cell? ⟨w.heap.size + 1, 3, none⟩ = some (.int .u64 b0)) (first | (with_reducible exact tm_cells T0) | (with_reducible exact tm_cells T0.drew) | (with_reducible exact tm_cells (T0.alloc _)) | (with_reducible exact tm_cells (T0.alloc _).drew) | (with_reducible exact tm_cells ((T0.alloc _).alloc _)) | (with_reducible exact tm_cells ((T0.alloc _).alloc _).drew) | (with_reducible exact tm_cells (T0.set4 (by omega) _ _ _ _)) | (with_reducible exact tm_cells ((T0.set4 (by omega) _ _ _ _).alloc _)) | (with_reducible exact tm_cells ((T0.set4 (by omega) _ _ _ _).set4 (by omega) _ _ _ _)) | (exact tm_cells T0.drew) | skip)
      (first
        | (go_at_call 45; have _t := tok1; refine (sizeOf_det a3 a2 a1 a0 h3 h2 h1 h0 x3 x2 x1 x0 e3 e2 e1 e0 hx _).mono ?_; rintro e w1 ⟨rfl, hB⟩; (first | (have T1 : ArgsB w w1 [[.int .u64 a3, .int .u64 a2, .int .u64 a1, .int .u64 a0], [.int .u64 b3, .int .u64 b2, .int .u64 b1, .int .u64 b0], [.int .u64 0, .int .u64 0, .int .u64 0, .int .u64 0, .int .u64 0, .int .u64 0, .int .u64 0, .int .u64 0]] := (by with_reducible exact T0.step hB); have hltw1 := T0.lt3; try (replace G0 := G0.step hB; have z0c := G0.c 0 rfl; have z0f := G0.f 0 rfl; have z1c := G0.c 1 rfl; have z1f := G0.f 1 rfl; have z2c := G0.c 2 rfl; have z2f := G0.f 2 rfl; have z3c := G0.c 3 rfl; have z3f := G0.f 3 rfl; have zlt := G0.lt); try (replace G1 := G1.step hB; have y0c := G1.c 0 rfl; have y0f := G1.f 0 rfl; have y1c := G1.c 1 rfl; have y1f := G1.f 1 rfl; have y2c := G1.c 2 rfl; have y2f := G1.f 2 rfl; have y3c := G1.c 3 rfl; have y3f := G1.f 3 rfl; have ylt := G1.lt)) | (have T1 : ArgsB w w1 [[.int .u64 a3, .int .u64 a2, .int .u64 a1, .int .u64 a0], [.int .u64 b3, .int .u64 b2, .int .u64 b1, .int .u64 b0], [.int .u64 0, .int .u64 0, .int .u64 0, .int .u64 0, .int .u64 0, .int .u64 0, .int .u64 0, .int .u64 0]] := (by with_reducible exact T0.drew.step hB); have hltw1 := T0.lt3; try (replace G0 := G0.drew.step hB; have z0c := G0.c 0 rfl; have z0f := G0.f 0 rfl; have z1c := G0.c 1 rfl; have z1f := G0.f 1 rfl; have z2c := G0.c 2 rfl; have z2f := G0.f 2 rfl; have z3c := G0.c 3 rfl; have z3f := G0.f 3 rfl; have zlt := G0.lt); try (replace G1 := G1.drew.step hB; have y0c := G1.c 0 rfl; have y0f := G1.f 0 rfl; have y1c := G1.c 1 rfl; have y1f := G1.f 1 rfl; have y2c := G1.c 2 rfl; have y2f := G1.f 2 rfl; have y3c := G1.c 3 rfl; have y3f := G1.f 3 rfl; have ylt := G1.lt)) | (have T1 : ArgsB w w1 [[.int .u64 a3, .int .u64 a2, .int .u64 a1, .int .u64 a0], [.int .u64 b3, .int .u64 b2, .int .u64 b1, .int .u64 b0], [.int .u64 0, .int .u64 0, .int .u64 0, .int .u64 0, .int .u64 0, .int .u64 0, .int .u64 0, .int .u64 0]] := (by with_reducible exact (T0.alloc _).step hB); have hltw1 := T0.lt3; (first | (have G1 := (Blk.new _ [.int .u64 0, .int .u64 0, .int .u64 0, .int .u64 0] _ rfl).step hB; have hgg := G0.lt; replace G0 := (G0.alloc _).step hB; have z0c := G0.c 0 rfl; have z0f := G0.f 0 rfl; have z1c := G0.c 1 rfl; have z1f := G0.f 1 rfl; have z2c := G0.c 2 rfl; have z2f := G0.f 2 rfl; have z3c := G0.c 3 rfl; have z3f := G0.f 3 rfl; have zlt := G0.lt; have y0c := G1.c 0 rfl; have y0f := G1.f 0 rfl; have y1c := G1.c 1 rfl; have y1f := G1.f 1 rfl; have y2c := G1.c 2 rfl; have y2f := G1.f 2 rfl; have y3c := G1.c 3 rfl; have y3f := G1.f 3 rfl; have ylt := G1.lt) | (have G0 := (Blk.new _ [.int .u64 0, .int .u64 0, .int .u64 0, .int .u64 0] _ rfl).step hB; have z0c := G0.c 0 rfl; have z0f := G0.f 0 rfl; have z1c := G0.c 1 rfl; have z1f := G0.f 1 rfl; have z2c := G0.c 2 rfl; have z2f := G0.f 2 rfl; have z3c := G0.c 3 rfl; have z3f := G0.f 3 rfl; have zlt := G0.lt))) | (have T1 : ArgsB w w1 [[.int .u64 a3, .int .u64 a2, .int .u64 a1, .int .u64 a0], [.int .u64 b3, .int .u64 b2, .int .u64 b1, .int .u64 b0], [.int .u64 0, .int .u64 0, .int .u64 0, .int .u64 0, .int .u64 0, .int .u64 0, .int .u64 0, .int .u64 0]] := (by with_reducible exact (T0.alloc _).drew.step hB); have hltw1 := T0.lt3; (first | (have G1 := (Blk.new _ [.int .u64 0, .int .u64 0, .int .u64 0, .int .u64 0] _ rfl).drew.step hB; have hgg := G0.lt; replace G0 := (G0.alloc _).drew.step hB; have z0c := G0.c 0 rfl; have z0f := G0.f 0 rfl; have z1c := G0.c 1 rfl; have z1f := G0.f 1 rfl; have z2c := G0.c 2 rfl; have z2f := G0.f 2 rfl; have z3c := G0.c 3 rfl; have z3f := G0.f 3 rfl; have zlt := G0.lt; have y0c := G1.c 0 rfl; have y0f := G1.f 0 rfl; have y1c := G1.c 1 rfl; have y1f := G1.f 1 rfl; have y2c := G1.c 2 rfl; have y2f := G1.f 2 rfl; have y3c := G1.c 3 rfl; have y3f := G1.f 3 rfl; have ylt := G1.lt) | (have G0 := (Blk.new _ [.int .u64 0, .int .u64 0, .int .u64 0, .int .u64 0] _ rfl).drew.step hB; have z0c := G0.c 0 rfl; have z0f := G0.f 0 rfl; have z1c := G0.c 1 rfl; have z1f := G0.f 1 rfl; have z2c := G0.c 2 rfl; have z2f := G0.f 2 rfl; have z3c := G0.c 3 rfl; have z3f := G0.f 3 rfl; have zlt := G0.lt))) | (have T1 : ArgsB w w1 [[.int .u64 a3, .int .u64 a2, .int .u64 a1, .int .u64 a0], [.int .u64 b3, .int .u64 b2, .int .u64 b1, .int .u64 b0], [.int .u64 0, .int .u64 0, .int .u64 0, .int .u64 0, .int .u64 0, .int .u64 0, .int .u64 0, .int .u64 0]] := (by with_reducible exact ((T0.alloc _).alloc _).step hB); have hltw1 := T0.lt3; have G0 := ((Blk.new _ [.int .u64 0, .int .u64 0, .int .u64 0, .int .u64 0] _ rfl).alloc _).step hB; have G1 := (Blk.new2 _ _ [.int .u64 0, .int .u64 0, .int .u64 0, .int .u64 0] _).step hB; have z0c := G0.c 0 rfl; have z0f := G0.f 0 rfl; have z1c := G0.c 1 rfl; have z1f := G0.f 1 rfl; have z2c := G0.c 2 rfl; have z2f := G0.f 2 rfl; have z3c := G0.c 3 rfl; have z3f := G0.f 3 rfl; have zlt := G0.lt; have y0c := G1.c 0 rfl; have y0f := G1.f 0 rfl; have y1c := G1.c 1 rfl; have y1f := G1.f 1 rfl; have y2c := G1.c 2 rfl; have y2f := G1.f 2 rfl; have y3c := G1.c 3 rfl; have y3f := G1.f 3 rfl; have ylt := G1.lt) | (have T1 : ArgsB w w1 [[.int .u64 a3, .int .u64 a2, .int .u64 a1, .int .u64 a0], [.int .u64 b3, .int .u64 b2, .int .u64 b1, .int .u64 b0], [.int .u64 0, .int .u64 0, .int .u64 0, .int .u64 0, .int .u64 0, .int .u64 0, .int .u64 0, .int .u64 0]] := (by with_reducible exact ((T0.alloc _).alloc _).drew.step hB); have hltw1 := T0.lt3; have G0 := ((Blk.new _ [.int .u64 0, .int .u64 0, .int .u64 0, .int .u64 0] _ rfl).alloc _).drew.step hB; have G1 := (Blk.new2 _ _ [.int .u64 0, .int .u64 0, .int .u64 0, .int .u64 0] _).drew.step hB; have z0c := G0.c 0 rfl; have z0f := G0.f 0 rfl; have z1c := G0.c 1 rfl; have z1f := G0.f 1 rfl; have z2c := G0.c 2 rfl; have z2f := G0.f 2 rfl; have z3c := G0.c 3 rfl; have z3f := G0.f 3 rfl; have zlt := G0.lt; have y0c := G1.c 0 rfl; have y0f := G1.f 0 rfl; have y1c := G1.c 1 rfl; have y1f := G1.f 1 rfl; have y2c := G1.c 2 rfl; have y2f := G1.f 2 rfl; have y3c := G1.c 3 rfl; have y3f := G1.f 3 rfl; have ylt := G1.lt)); clear T0; have T0 := T1; clear T1; clear tok1 _t hB)
        | (go_at_call 45; refine (sizeOf_det b3 b2 b1 b0 k3 k2 k1 k0 y3 y2 y1 y0 f3 f2 f1 f0 hy _).mono ?_; rintro e w2 ⟨rfl, hB⟩; (first | (have T1 : ArgsB w w2 [[.int .u64 a3, .int .u64 a2, .int .u64 a1, .int .u64 a0], [.int .u64 b3, .int .u64 b2, .int .u64 b1, .int .u64 b0], [.int .u64 0, .int .u64 0, .int .u64 0, .int .u64 0, .int .u64 0, .int .u64 0, .int .u64 0, .int .u64 0]] := (by with_reducible exact T0.step hB); have hltw2 := T0.lt3; try (replace G0 := G0.step hB; have z0c := G0.c 0 rfl; have z0f := G0.f 0 rfl; have z1c := G0.c 1 rfl; have z1f := G0.f 1 rfl; have z2c := G0.c 2 rfl; have z2f := G0.f 2 rfl; have z3c := G0.c 3 rfl; have z3f := G0.f 3 rfl; have zlt := G0.lt); try (replace G1 := G1.step hB; have y0c := G1.c 0 rfl; have y0f := G1.f 0 rfl; have y1c := G1.c 1 rfl; have y1f := G1.f 1 rfl; have y2c := G1.c 2 rfl; have y2f := G1.f 2 rfl; have y3c := G1.c 3 rfl; have y3f := G1.f 3 rfl; have ylt := G1.lt)) | (have T1 : ArgsB w w2 [[.int .u64 a3, .int .u64 a2, .int .u64 a1, .int .u64 a0], [.int .u64 b3, .int .u64 b2, .int .u64 b1, .int .u64 b0], [.int .u64 0, .int .u64 0, .int .u64 0, .int .u64 0, .int .u64 0, .int .u64 0, .int .u64 0, .int .u64 0]] := (by with_reducible exact T0.drew.step hB); have hltw2 := T0.lt3; try (replace G0 := G0.drew.step hB; have z0c := G0.c 0 rfl; have z0f := G0.f 0 rfl; have z1c := G0.c 1 rfl; have z1f := G0.f 1 rfl; have z2c := G0.c 2 rfl; have z2f := G0.f 2 rfl; have z3c := G0.c 3 rfl; have z3f := G0.f 3 rfl; have zlt := G0.lt); try (replace G1 := G1.drew.step hB; have y0c := G1.c 0 rfl; have y0f := G1.f 0 rfl; have y1c := G1.c 1 rfl; have y1f := G1.f 1 rfl; have y2c := G1.c 2 rfl; have y2f := G1.f 2 rfl; have y3c := G1.c 3 rfl; have y3f := G1.f 3 rfl; have ylt := G1.lt)) | (have T1 : ArgsB w w2 [[.int .u64 a3, .int .u64 a2, .int .u64 a1, .int .u64 a0], [.int .u64 b3, .int .u64 b2, .int .u64 b1, .int .u64 b0], [.int .u64 0, .int .u64 0, .int .u64 0, .int .u64 0, .int .u64 0, .int .u64 0, .int .u64 0, .int .u64 0]] := (by with_reducible exact (T0.alloc _).step hB); have hltw2 := T0.lt3; (first | (have G1 := (Blk.new _ [.int .u64 0, .int .u64 0, .int .u64 0, .int .u64 0] _ rfl).step hB; have hgg := G0.lt; replace G0 := (G0.alloc _).step hB; have z0c := G0.c 0 rfl; have z0f := G0.f 0 rfl; have z1c := G0.c 1 rfl; have z1f := G0.f 1 rfl; have z2c := G0.c 2 rfl; have z2f := G0.f 2 rfl; have z3c := G0.c 3 rfl; have z3f := G0.f 3 rfl; have zlt := G0.lt; have y0c := G1.c 0 rfl; have y0f := G1.f 0 rfl; have y1c := G1.c 1 rfl; have y1f := G1.f 1 rfl; have y2c := G1.c 2 rfl; have y2f := G1.f 2 rfl; have y3c := G1.c 3 rfl; have y3f := G1.f 3 rfl; have ylt := G1.lt) | (have G0 := (Blk.new _ [.int .u64 0, .int .u64 0, .int .u64 0, .int .u64 0] _ rfl).step hB; have z0c := G0.c 0 rfl; have z0f := G0.f 0 rfl; have z1c := G0.c 1 rfl; have z1f := G0.f 1 rfl; have z2c := G0.c 2 rfl; have z2f := G0.f 2 rfl; have z3c := G0.c 3 rfl; have z3f := G0.f 3 rfl; have zlt := G0.lt))) | (have T1 : ArgsB w w2 [[.int .u64 a3, .int .u64 a2, .int .u64 a1, .int .u64 a0], [.int .u64 b3, .int .u64 b2, .int .u64 b1, .int .u64 b0], [.int .u64 0, .int .u64 0, .int .u64 0, .int .u64 0, .int .u64 0, .int .u64 0, .int .u64 0, .int .u64 0]] := (by with_reducible exact (T0.alloc _).drew.step hB); have hltw2 := T0.lt3; (first | (have G1 := (Blk.new _ [.int .u64 0, .int .u64 0, .int .u64 0, .int .u64 0] _ rfl).drew.step hB; have hgg := G0.lt; replace G0 := (G0.alloc _).drew.step hB; have z0c := G0.c 0 rfl; have z0f := G0.f 0 rfl; have z1c := G0.c 1 rfl; have z1f := G0.f 1 rfl; have z2c := G0.c 2 rfl; have z2f := G0.f 2 rfl; have z3c := G0.c 3 rfl; have z3f := G0.f 3 rfl; have zlt := G0.lt; have y0c := G1.c 0 rfl; have y0f := G1.f 0 rfl; have y1c := G1.c 1 rfl; have y1f := G1.f 1 rfl; have y2c := G1.c 2 rfl; have y2f := G1.f 2 rfl; have y3c := G1.c 3 rfl; have y3f := G1.f 3 rfl; have ylt := G1.lt) | (have G0 := (Blk.new _ [.int .u64 0, .int .u64 0, .int .u64 0, .int .u64 0] _ rfl).drew.step hB; have z0c := G0.c 0 rfl; have z0f := G0.f 0 rfl; have z1c := G0.c 1 rfl; have z1f := G0.f 1 rfl; have z2c := G0.c 2 rfl; have z2f := G0.f 2 rfl; have z3c := G0.c 3 rfl; have z3f := G0.f 3 rfl; have zlt := G0.lt))) | (have T1 : ArgsB w w2 [[.int .u64 a3, .int .u64 a2, .int .u64 a1, .int .u64 a0], [.int .u64 b3, .int .u64 b2, .int .u64 b1, .int .u64 b0], [.int .u64 0, .int .u64 0, .int .u64 0, .int .u64 0, .int .u64 0, .int .u64 0, .int .u64 0, .int .u64 0]] := (by with_reducible exact ((T0.alloc _).alloc _).step hB); have hltw2 := T0.lt3; have G0 := ((Blk.new _ [.int .u64 0, .int .u64 0, .int .u64 0, .int .u64 0] _ rfl).alloc _).step hB; have G1 := (Blk.new2 _ _ [.int .u64 0, .int .u64 0, .int .u64 0, .int .u64 0] _).step hB; have z0c := G0.c 0 rfl; have z0f := G0.f 0 rfl; have z1c := G0.c 1 rfl; have z1f := G0.f 1 rfl; have z2c := G0.c 2 rfl; have z2f := G0.f 2 rfl; have z3c := G0.c 3 rfl; have z3f := G0.f 3 rfl; have zlt := G0.lt; have y0c := G1.c 0 rfl; have y0f := G1.f 0 rfl; have y1c := G1.c 1 rfl; have y1f := G1.f 1 rfl; have y2c := G1.c 2 rfl; have y2f := G1.f 2 rfl; have y3c := G1.c 3 rfl; have y3f := G1.f 3 rfl; have ylt := G1.lt) | (have T1 : ArgsB w w2 [[.int .u64 a3, .int .u64 a2, .int .u64 a1, .int .u64 a0], [.int .u64 b3, .int .u64 b2, .int .u64 b1, .int .u64 b0], [.int .u64 0, .int .u64 0, .int .u64 0, .int .u64 0, .int .u64 0, .int .u64 0, .int .u64 0, .int .u64 0]] := (by with_reducible exact ((T0.alloc _).alloc _).drew.step hB); have hltw2 := T0.lt3; have G0 := ((Blk.new _ [.int .u64 0, .int .u64 0, .int .u64 0, .int .u64 0] _ rfl).alloc _).drew.step hB; have G1 := (Blk.new2 _ _ [.int .u64 0, .int .u64 0, .int .u64 0, .int .u64 0] _).drew.step hB; have z0c := G0.c 0 rfl; have z0f := G0.f 0 rfl; have z1c := G0.c 1 rfl; have z1f := G0.f 1 rfl; have z2c := G0.c 2 rfl; have z2f := G0.f 2 rfl; have z3c := G0.c 3 rfl; have z3f := G0.f 3 rfl; have zlt := G0.lt; have y0c := G1.c 0 rfl; have y0f := G1.f 0 rfl; have y1c := G1.c 1 rfl; have y1f := G1.f 1 rfl; have y2c := G1.c 2 rfl; have y2f := G1.f 2 rfl; have y3c := G1.c 3 rfl; have y3f := G1.f 3 rfl; have ylt := G1.lt)); clear T0; have T0 := T1; clear T1; clear hB))
    all_goals go_wp2_with fail
    all_goals go_meet
    all_goals first | (with_reducible exact cutT_nn T0 T0.lt3) | (with_reducible exact cutT_nn' T0 T0.lt3) | (with_reducible exact cutT_sn T0 G0 (by omega) T0.lt3) | (with_reducible exact cutT_sn' T0 G0 (by omega) T0.lt3) | (with_reducible exact cutT_ss T0 G0 G1 (by omega) (by omega) (by omega)) | (with_reducible exact cutT_ss T0 G1 G0 (by omega) (by omega) (by omega))
  case rest =>
    clear T0 tok1
    obtain ⟨g, g', hp, hq, hne, hg, hg', T0, GX, GY⟩ := hcut
    subst hp; subst hq
    have hw4 : Words [x0, x1, x2, x3] := words4 e0 e1 e2 e3
    have hv4 : Words [y0, y1, y2, y3] := words4 f0 f1 f2 f3
    have HVX : Hid (val64 [x0, x1, x2, x3] = ((sw a3 a2 a1 a0).natAbs : Int)) := by show _ = _; rw [val64_4, hx]
    have HVY : Hid (val64 [y0, y1, y2, y3] = ((sw b3 b2 b1 b0).natAbs : Int)) := by show _ = _; rw [val64_4, hy]
    have HX : Hid (Words [x0, x1, x2, x3]) := hw4
    have HY : Hid (Words [y0, y1, y2, y3]) := hv4
    have HS : Tm3 w (wc.alloc (.cells #[.int .u64 0, .int .u64 0, .int .u64 0, .int .u64 0, .int .u64 0, .int .u64 0, .int .u64 0, .int .u64 0] 52)) [[.int .u64 a3, .int .u64 a2, .int .u64 a1, .int .u64 a0], [.int .u64 b3, .int .u64 b2, .int .u64 b1, .int .u64 b0], [.int .u64 0, .int .u64 0, .int .u64 0, .int .u64 0, .int .u64 0, .int .u64 0, .int .u64 0, .int .u64 0]] g g' wc.heap.size [x0, x1, x2, x3] [y0, y1, y2, y3] [0, 0, 0, 0, 0, 0, 0, 0] := ⟨T0.alloc _, GX.alloc _, GY.alloc _, Blk.new wc [.int .u64 0, .int .u64 0, .int .u64 0, .int .u64 0, .int .u64 0, .int .u64 0, .int .u64 0, .int .u64 0] 52 rfl⟩
    have HI : TmI [x0, x1, x2, x3] [y0, y1, y2, y3] [0, 0, 0, 0, 0, 0, 0, 0] 0 := tm_start _ _
    have hgx := GX.lt; have hgy := GY.lt; have hl3 := T0.lt3
    clear T0 GX GY hx hy e3 e2 e1 e0 f3 f2 f1 f0 hw4 hv4
    go_wp2
    generalize wc.alloc (.cells #[.int .u64 0, .int .u64 0, .int .u64 0, .int .u64 0, .int .u64 0, .int .u64 0, .int .u64 0, .int .u64 0] 52) = W1 at *
    have ng : g ≠ wc.heap.size := by omega
    have ng' : g' ≠ wc.heap.size := by omega
    have hgp : w.heap.size + 2 < wc.heap.size := hl3
    generalize wc.heap.size = gp at *
    generalize hxs : [x0, x1, x2, x3] = xs at *
    generalize hys : [y0, y1, y2, y3] = ys at *
    have HLX : Hid (xs.length = 4) := by show _ = _; rw [← hxs]; rfl
    have HLY : Hid (ys.length = 4) := by show _ = _; rw [← hys]; rfl
    clear hxs hys hgx hgy hl3
    go_loopw [18] (fun i wr => ∃ (c : Nat) (zs : List Int), c ≤ 4 ∧ i = .int .i64 c ∧ TmI xs ys zs c ∧ Tm3 w wr [[.int .u64 a3, .int .u64 a2, .int .u64 a1, .int .u64 a0], [.int .u64 b3, .int .u64 b2, .int .u64 b1, .int .u64 b0], [.int .u64 0, .int .u64 0, .int .u64 0, .int .u64 0, .int .u64 0, .int .u64 0, .int .u64 0, .int .u64 0]] g g' gp xs ys zs) (fun i _ => 4 - (intOf i).toNat)
    case atStart => exact ⟨0, _, by omega, rfl, HI, HS⟩
    case round =>
      clear HI HS
      obtain ⟨c, zs, hc, rfl, hI, hT⟩ := hrel
      by_cases hc4 : c < 4
      · have hcx : c < xs.length := by have := HLX.out; omega
        have HJ := tm_in hI xs[c]
        have HWX := words_at HX.out c hcx
        have hcI : (c : Int) < 4 := by omega
        clear hI
        go_wp2
        obtain ⟨wo, hwo⟩ : ∃ wo : World, wo = wr := ⟨_, rfl⟩
        subst hwo
        go_loopw [9, 21] (fun o k wr => ∃ (j : Nat) (ov : Int) (zs : List Int), j ≤ 4 ∧ k = .int .i64 j ∧ Word ov ∧ o = .int .u64 ov ∧ TmJ xs ys zs c j xs[c] ov ∧ Tm3 w wr [[.int .u64 a3, .int .u64 a2, .int .u64 a1, .int .u64 a0], [.int .u64 b3, .int .u64 b2, .int .u64 b1, .int .u64 b0], [.int .u64 0, .int .u64 0, .int .u64 0, .int .u64 0, .int .u64 0, .int .u64 0, .int .u64 0, .int .u64 0]] g g' gp xs ys zs) (fun _ k _ => 4 - (intOf k).toNat)
        case atStart => exact ⟨0, 0, _, by omega, rfl, wd0, rfl, HJ, hT⟩
        case round =>
          clear HJ hT
          obtain ⟨j, ov, zs', hj, rfl, ho, rfl, hJ, hT⟩ := hrel
          have hlen := hJ.len
          by_cases hj4 : j < 4
          · have hjy : j < ys.length := by have := HLY.out; omega
            have hij : c + j < zs'.length := by omega
            have q1 := hT.cx c hcx
            have q2 := hT.cy j hjy
            obtain ⟨q3, q4⟩ := hT.cp (c + j) hij
            have HWY := words_at HY.out j hjy
            have HWZ := words_at hJ.wds (c + j) hij
            obtain ⟨P0, P1⟩ := word_mul HWX HWY
            obtain ⟨hi, ehi⟩ : ∃ v, xs[c] * ys[j] / 18446744073709551616 = v := ⟨_, rfl⟩
            obtain ⟨lo, elo⟩ : ∃ v, xs[c] * ys[j] % 18446744073709551616 = v := ⟨_, rfl⟩
            obtain ⟨t1, t2, t3, t4, t5, t6, t7, t8⟩ := tm_arith P0 P1 HWZ ho
            rw [ehi] at t1 t4 t6
            rw [elo] at t2 t3 t4 t5 t6
            have M1 := mul64n xs[c] ys[j] hi lo HWX HWY ehi elo
            obtain ⟨l1, el1⟩ : ∃ v, (lo + zs'[c + j]) % 18446744073709551616 = v := ⟨_, rfl⟩
            obtain ⟨c1, ec1⟩ : ∃ v, (lo + zs'[c + j]) / 18446744073709551616 = v := ⟨_, rfl⟩
            have A1 := add64n lo zs'[c + j] l1 c1 t2 HWZ el1 ec1
            rw [el1] at t3 t5 t6
            rw [ec1] at t4 t6
            obtain ⟨n1, en1⟩ : ∃ v, (l1 + ov) % 18446744073709551616 = v := ⟨_, rfl⟩
            obtain ⟨c2, ec2⟩ : ∃ v, (l1 + ov) / 18446744073709551616 = v := ⟨_, rfl⟩
            have A2 := add64n l1 ov n1 c2 t3 ho en1 ec2
            rw [en1] at t5
            rw [ec2] at t6
            have R1 := tm_step hJ hjy hj4 hij _ rfl t8
            have R2 := fun nq => (hT.drew nq).set ng ng' hgp (c + j) hij n1
            rw [← t5, ← t6] at R1
            rw [← t6] at t7
            have d1 : 0 ≤ hi := t1.1
            have d2 : 0 ≤ c1 := by rw [← ec1]; have := t2.1; have := HWZ.1; omega
            have d3 : 0 ≤ c2 := by rw [← ec2]; have := t3.1; have := ho.1; omega
            obtain ⟨d4, d5⟩ : 0 ≤ hi + c1 + c2 ∧ hi + c1 + c2 < 18446744073709551616 := t7
            clear hJ hT hlen t1 t2 t3 t5 t6 t8 P0 P1 ehi elo el1 ec1 en1 ec2 HWY HWZ
            have hjI : (j : Int) < 4 := by omega
            have hcj : (c : Int) + j < 8 := by omega
            go_wp2
            go_quiet ((go_at_call 46; exact Calls.quiet_of_same (M1 _)))
            go_wp2
            go_roundw
            case rel => exact ⟨j + 1, _, _, by omega, by go_num, ⟨d4, d5⟩, rfl, R1, R2 _⟩
            case measure => simp [intOf]; omega
          · obtain rfl : j = 4 := by omega
            have him : c + 4 < zs'.length := by omega
            obtain ⟨q3, q4⟩ := hT.cp (c + 4) him
            have R1 := tm_out hcx hJ HLY.out him ho
            have R2 := hT.set ng ng' hgp (c + 4) him ov
            clear hJ hT hlen
            have hcj : (c : Int) + 4 < 8 := by omega
            go_wp2
            go_roundw
            case rel => exact ⟨c + 1, _, by omega, by go_num, R1, R2⟩
            case measure => simp [intOf]; omega
      · obtain rfl : c = 4 := by omega
        obtain ⟨z0, z1, z2, z3, z4, z5, z6, z7, rfl⟩ := list8 hI.len
        have wz := hI.wds
        have HV : Hid (val64 [z0, z1, z2, z3, z4, z5, z6, z7] = ((sw a3 a2 a1 a0).natAbs : Int) * ((sw b3 b2 b1 b0).natAbs : Int)) := by
          show _ = _
          rw [hI.eq, List.take_of_length_le (by have := HLX.out; omega), HVX.out, HVY.out]
        obtain ⟨pa, hpa⟩ : ∃ b, (a3 / 9223372036854775808 == 1) = b := ⟨_, rfl⟩
        obtain ⟨pb, hpb⟩ : ∃ b, (b3 / 9223372036854775808 == 1) = b := ⟨_, rfl⟩
        have HPA : Hid (pa = decide (sw a3 a2 a1 a0 < 0)) := by show _ = _; rw [← hpa, Bool.eq_iff_iff]; have := sw_neg h3 h2 h1 h0; unfold Word at h3; simp; omega
        have HPB : Hid (pb = decide (sw b3 b2 b1 b0 < 0)) := by show _ = _; rw [← hpb, Bool.eq_iff_iff]; have := sw_neg k3 k2 k1 k0; unfold Word at k3; simp; omega
        have tok1 : True := trivial
        clear hI hc hc4
        go_upto_region 19 with fail
        go_region_held3 (fun w' => w'.cell? ⟨gp, 0, none⟩ = some (.int .u64 z0) ∧ w'.cell? ⟨gp, 1, none⟩ = some (.int .u64 z1) ∧ w'.cell? ⟨gp, 2, none⟩ = some (.int .u64 z2) ∧ w'.cell? ⟨gp, 3, none⟩ = some (.int .u64 z3) ∧ w'.cell? ⟨gp, 4, none⟩ = some (.int .u64 z4) ∧ w'.cell? ⟨gp, 5, none⟩ = some (.int .u64 z5) ∧ w'.cell? ⟨gp, 6, none⟩ = some (.int .u64 z6) ∧ w'.cell? ⟨gp, 7, none⟩ = some (.int .u64 z7) ∧ w'.cell? ⟨w.heap.size, 0, none⟩ = some (.int .u64 a3) ∧ w'.cell? ⟨w.heap.size, 1, none⟩ = some (.int .u64 a2) ∧ w'.cell? ⟨w.heap.size, 2, none⟩ = some (.int .u64 a1) ∧ w'.cell? ⟨w.heap.size, 3, none⟩ = some (.int .u64 a0) ∧ w'.cell? ⟨w.heap.size + 1, 0, none⟩ = some (.int .u64 b3) ∧ w'.cell? ⟨w.heap.size + 1, 1, none⟩ = some (.int .u64 b2) ∧ w'.cell? ⟨w.heap.size + 1, 2, none⟩ = some (.int .u64 b1) ∧ w'.cell? ⟨w.heap.size + 1, 3, none⟩ = some (.int .u64 b0)) (first | (with_reducible exact tm3_cells hT) | (with_reducible exact tm3_cells hT.drew1) | (with_reducible exact tm3_cells8 hT hgp))
          (first
            | (go_at_call 22; have _t := tok1; refine (isBelow_any a3 a2 a1 a0 h3 pa hpa _).mono ?_; rintro e w1 ⟨rfl, hB⟩; (first | (have T1 := hT.step hB) | (have T1 := hT.drew1.step hB)); clear hT; have hT := T1; clear T1; clear tok1 _t hB)
            | (go_at_call 22; refine (isBelow_any b3 b2 b1 b0 k3 pb hpb _).mono ?_; rintro e w2 ⟨rfl, hB⟩; (first | (have T1 := hT.step hB) | (have T1 := hT.drew1.step hB)); clear hT; have hT := T1; clear T1; clear hB)
            | (go_at_call 48; refine (signed_any z0 z1 z2 z3 z4 z5 z6 z7 _ wz _).mono ?_; rintro e w3 ⟨r0, r1, r2, r3, r4, r5, r6, r7, rfl, wr8, hr8, hB⟩; (first | (have T1 := hT.step hB) | (have T1 := hT.drew1.step hB)); clear hT; have hT := T1; clear T1; have o0 := (hT.args.b 2 rfl).c 0 rfl; have p0 := (hT.args.b 2 rfl).f 0 rfl; have o1 := (hT.args.b 2 rfl).c 1 rfl; have p1 := (hT.args.b 2 rfl).f 1 rfl; have o2 := (hT.args.b 2 rfl).c 2 rfl; have p2 := (hT.args.b 2 rfl).f 2 rfl; have o3 := (hT.args.b 2 rfl).c 3 rfl; have p3 := (hT.args.b 2 rfl).f 3 rfl; have o4 := (hT.args.b 2 rfl).c 4 rfl; have p4 := (hT.args.b 2 rfl).f 4 rfl; have o5 := (hT.args.b 2 rfl).c 5 rfl; have p5 := (hT.args.b 2 rfl).f 5 rfl; have o6 := (hT.args.b 2 rfl).c 6 rfl; have p6 := (hT.args.b 2 rfl).f 6 rfl; have o7 := (hT.args.b 2 rfl).c 7 rfl; have p7 := (hT.args.b 2 rfl).f 7 rfl; have olt := (hT.args.b 2 rfl).lt; clear hB))
        all_goals have HB := hT.args.below
        all_goals have HR := sl_signed wr8 (sw_size h3 h2 h1 h0) (sw_size k3 k2 k1 k0) HV.out (by rw [HPA.out, HPB.out]; rfl) hr8
        all_goals clear hr8 hT
        all_goals go_wp2
        all_goals refine bodyPost_ret (v := L8 r0 r1 r2 r3 r4 r5 r6 r7) (by simp [results, Try.results27, go_sem, o0, o1, o2, o3, o4, o5, o6, o7]) rfl ?_
        all_goals refine ⟨r0, r1, r2, r3, r4, r5, r6, r7, rfl, wr8, HR, ?_⟩
        all_goals repeat' (refine Below.setCell ?_ (by simp; try omega) _)
        all_goals exact HB
end Go.Proofs.Ytinilehbhdpdkaa
