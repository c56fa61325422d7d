/- The turn of three spots: the walks. -/
import Derived.Test.YteeeofejmgjgbaaSegC
import Derived.Deep.RegionHeld3
import Derived.Deep.DeepCutAuto
namespace Go.Proofs.Yteeeofejmgjgbaa
open Go.RowKit
def In6 (x : Int) : Prop := -1000000 ≤ x ∧ x ≤ 1000000
def IntP (z : Int) (w : World) (e : Ending) (w' : World) : Prop := e = .returned (.int .i64 z) ∧ Below w.heap.size w w'
theorem ret_int {k : IntKind} {a b : Int} (h : b = a) : Ending.returned (.int k a) = .returned (.int k b) := by rw [h]
theorem mul_in {p q M N : Int} (h1 : -M ≤ p) (h2 : p ≤ M) (h3 : -N ≤ q) (h4 : q ≤ N) : -(M * N) ≤ p * q ∧ p * q ≤ M * N := by
  have hM : 0 ≤ M := by omega
  have hN : 0 ≤ N := by omega
  have a1 : 0 ≤ (M - p) * (N - q) := Int.mul_nonneg (by omega) (by omega)
  have a2 : 0 ≤ (M + p) * (N + q) := Int.mul_nonneg (by omega) (by omega)
  have a3 : 0 ≤ (M - p) * (N + q) := Int.mul_nonneg (by omega) (by omega)
  have a4 : 0 ≤ (M + p) * (N - q) := Int.mul_nonneg (by omega) (by omega)
  constructor <;> grind
theorem minus_any (x y u v : Int) (hx : In6 x) (hy : In6 y) (hu : In6 u) (hv : In6 v) (w : World) : Calls Try.prog 22 #[Sp x y, Sp u v] w (SpotP (x - u) (y - v) w) := by
  obtain ⟨x1, x2⟩ := hx; obtain ⟨y1, y2⟩ := hy; obtain ⟨u1, u2⟩ := hu; obtain ⟨v1, v2⟩ := hv
  go_enter Try.func22, Try.ntmps22
  go_wp2
  refine bodyPost_ret (v := Sp (x - u) (y - v)) (by simp [results, Try.results22, go_sem]) rfl ?_
  exact ⟨rfl, (((Below.refl _ _).alloc (Nat.le_refl _) _).alloc (by simp) _).alloc (by simp; omega) _⟩
theorem cross_any (x y u v p q : Int) (hp : x * v = p) (hq : y * u = q) (hpb : -4000000000000 ≤ p ∧ p ≤ 4000000000000) (hqb : -4000000000000 ≤ q ∧ q ≤ 4000000000000) (w : World) : Calls Try.prog 23 #[Sp x y, Sp u v] w (IntP (p - q) w) := by
  obtain ⟨p1, p2⟩ := hpb; obtain ⟨q1, q2⟩ := hqb
  go_enter Try.func23, Try.ntmps23
  go_wp2
  go_ret
  exact ⟨rfl, ((Below.refl _ _).alloc (Nat.le_refl _) _).alloc (by simp) _⟩
def turnI (a b c d x y : Int) : Int := (c - a) * (y - b) - (d - b) * (x - a)
def sgn (z : Int) : Int := if z < 0 then -1 else if 0 < z then 1 else 0
set_option maxRecDepth 100000 in
theorem l4Turn_any (a b c d x y : Int) (ha : In6 a) (hb : In6 b) (hc : In6 c) (hd : In6 d) (hx : In6 x) (hy : In6 y) (w : World) :
    Calls Try.prog 16 #[Sp a b, Sp c d, Sp x y] w (IntP (sgn (turnI a b c d x y)) w) := by
  have HR : turnI a b c d x y = (c - a) * (y - b) - (d - b) * (x - a) := rfl
  obtain ⟨a1, a2⟩ := ha; obtain ⟨b1, b2⟩ := hb; obtain ⟨c1, c2⟩ := hc; obtain ⟨d1, d2⟩ := hd; obtain ⟨x1, x2⟩ := hx; obtain ⟨y1, y2⟩ := hy
  obtain ⟨p1, p2⟩ := mul_in (p := c - a) (q := y - b) (M := 2000000) (N := 2000000) (by omega) (by omega) (by omega) (by omega)
  obtain ⟨q1, q2⟩ := mul_in (p := d - b) (q := x - a) (M := 2000000) (N := 2000000) (by omega) (by omega) (by omega) (by omega)
  obtain ⟨p, hp⟩ : ∃ p, (c - a) * (y - b) = p := ⟨_, rfl⟩
  obtain ⟨q, hq⟩ : ∃ q, (d - b) * (x - a) = q := ⟨_, rfl⟩
  rw [hp] at p1 p2 HR
  rw [hq] at q1 q2 HR
  rw [HR]
  clear HR
  go_enter Try.func16, Try.ntmps16
  go_wp2
  all_goals go_ret
  all_goals exact ⟨ret_int (by unfold sgn; split <;> (try split) <;> omega), (((Below.refl _ _).alloc (Nat.le_refl _) _).alloc (by simp) _).alloc (by simp; omega) _⟩
theorem turnTo_cells {a b c d x y : Int} {w W : World} (h : ArgsB w W [[.int .i64 a, .int .i64 b, .int .i64 c, .int .i64 d], [.int .i64 x, .int .i64 y]]) : (fun w' => w'.cell? ⟨w.heap.size, 0, none⟩ = some (.int .i64 a) ∧ w'.cell? ⟨w.heap.size, 1, none⟩ = some (.int .i64 b) ∧ w'.cell? ⟨w.heap.size, 2, none⟩ = some (.int .i64 c) ∧ w'.cell? ⟨w.heap.size, 3, none⟩ = some (.int .i64 d) ∧ w'.cell? ⟨w.heap.size + 1, 0, none⟩ = some (.int .i64 x) ∧ w'.cell? ⟨w.heap.size + 1, 1, none⟩ = some (.int .i64 y)) W :=
  ⟨(h.b 0 rfl).c 0 rfl, (h.b 0 rfl).c 1 rfl, (h.b 0 rfl).c 2 rfl, (h.b 0 rfl).c 3 rfl, (h.b 1 rfl).c 0 rfl, (h.b 1 rfl).c 1 rfl⟩
theorem turnTo_start (a b c d x y : Int) (w : World) : ArgsB w ((w.alloc (.cells #[.int .i64 a, .int .i64 b, .int .i64 c, .int .i64 d] 29)).alloc (.cells #[.int .i64 x, .int .i64 y] 27)) [[.int .i64 a, .int .i64 b, .int .i64 c, .int .i64 d], [.int .i64 x, .int .i64 y]] := by
  refine ⟨((Below.refl _ _).alloc (Nat.le_refl _) _).alloc (by simp) _, fun j vs hj => ?_⟩
  match j, hj with
  | 0, hj => cases hj; exact (Blk.new w [.int .i64 a, .int .i64 b, .int .i64 c, .int .i64 d] 29 rfl).alloc _
  | 1, hj => cases hj; exact Blk.new (w.alloc (.cells #[.int .i64 a, .int .i64 b, .int .i64 c, .int .i64 d] 29)) [.int .i64 x, .int .i64 y] 27 (by simp)
  | j + 2, hj => simp at hj
set_option maxRecDepth 100000 in
set_option maxHeartbeats 1000000 in
theorem turnTo_any (a b c d x y : Int) (ha : In6 a) (hb : In6 b) (hc : In6 c) (hd : In6 d) (hx : In6 x) (hy : In6 y) (w : World) :
    Calls Try.prog 21 #[Sg a b c d, Sp x y] w (IntP (turnI a b c d x y) w) := by
  have HP : -4000000000000 ≤ (c - a) * (y - b) ∧ (c - a) * (y - b) ≤ 4000000000000 := mul_in (M := 2000000) (N := 2000000) (by have := ha.1; have := ha.2; have := hc.1; have := hc.2; omega) (by have := ha.1; have := ha.2; have := hc.1; have := hc.2; omega) (by have := hb.1; have := hb.2; have := hy.1; have := hy.2; omega) (by have := hb.1; have := hb.2; have := hy.1; have := hy.2; omega)
  have HQ : -4000000000000 ≤ (d - b) * (x - a) ∧ (d - b) * (x - a) ≤ 4000000000000 := mul_in (M := 2000000) (N := 2000000) (by have := hb.1; have := hb.2; have := hd.1; have := hd.2; omega) (by have := hb.1; have := hb.2; have := hd.1; have := hd.2; omega) (by have := ha.1; have := ha.2; have := hx.1; have := hx.2; omega) (by have := ha.1; have := ha.2; have := hx.1; have := hx.2; omega)
  have T0 := turnTo_start a b c d x y w
  have tok1 : True := trivial
  go_enter Try.func21, Try.ntmps21
  go_upto_region 1 with fail
  generalize ((w.alloc (.cells #[.int .i64 a, .int .i64 b, .int .i64 c, .int .i64 d] 29)).alloc (.cells #[.int .i64 x, .int .i64 y] 27)) = W at *
  go_region_held3 (fun w' => w'.cell? ⟨w.heap.size, 0, none⟩ = some (.int .i64 a) ∧ w'.cell? ⟨w.heap.size, 1, none⟩ = some (.int .i64 b) ∧ w'.cell? ⟨w.heap.size, 2, none⟩ = some (.int .i64 c) ∧ w'.cell? ⟨w.heap.size, 3, none⟩ = some (.int .i64 d) ∧ w'.cell? ⟨w.heap.size + 1, 0, none⟩ = some (.int .i64 x) ∧ w'.cell? ⟨w.heap.size + 1, 1, none⟩ = some (.int .i64 y)) (first | (with_reducible exact turnTo_cells T0) | (with_reducible exact turnTo_cells T0.drew))
    (first
      | (go_at_call 22; have _t := tok1; refine (minus_any c d a b hc hd ha hb _).mono ?_; rintro e w1 ⟨rfl, hB⟩; (first | (have T1 := T0.step hB) | (have T1 := T0.drew.step hB)); clear T0; have T0 := T1; clear T1; clear hB tok1 _t)
      | (go_at_call 22; refine (minus_any x y a b hx hy ha hb _).mono ?_; rintro e w2 ⟨rfl, hB⟩; (first | (have T1 := T0.step hB) | (have T1 := T0.drew.step hB)); clear T0; have T0 := T1; clear T1; clear hB)
      | (go_at_call 23; refine (cross_any (c - a) (d - b) (x - a) (y - b) _ _ rfl rfl HP HQ _).mono ?_; rintro e w3 ⟨rfl, hB⟩; (first | (have T1 := T0.step hB) | (have T1 := T0.drew.step hB)); clear T0; have T0 := T1; clear T1; clear hB))
  all_goals go_wp2
  all_goals go_ret
  all_goals first | exact ⟨rfl, T0.below⟩ | exact ⟨rfl, T0.drew.below⟩
end Go.Proofs.Yteeeofejmgjgbaa
