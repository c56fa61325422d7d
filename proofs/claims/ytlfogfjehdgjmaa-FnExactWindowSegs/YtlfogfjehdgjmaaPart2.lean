/- Part 2 of the walks that the proof leans on. -/
import Derived.Test.YtlfogfjehdgjmaaPart1
import Derived.Deep.RegionHeld3
import Derived.Deep.DeepCutAuto
import Derived.SizedLaws
import Derived.Deep.Slices
import Derived.Test.YtlfogfjehdgjmaaRows
import Derived.ProofKit
import Derived.Lib.SmallJoins
/- The turn of three spots: the walks. -/
namespace Go.Proofs.Ytlfogfjehdgjmaa
open Go.RowKit
def In6 (x : Int) : Prop := -1000000 ≤ x ∧ x ≤ 1000000
theorem mul_in {p q M N : Int} (h1 : -M ≤ p) (h2 : p ≤ M) (h3 : -N ≤ q) (h4 : q ≤ N) : -(M * N) ≤ p * q ∧ p * q ≤ M * N := by
  have hM : 0 ≤ M := by omega
  have hN : 0 ≤ N := by omega
  have a1 : 0 ≤ (M - p) * (N - q) := Int.mul_nonneg (by omega) (by omega)
  have a2 : 0 ≤ (M + p) * (N + q) := Int.mul_nonneg (by omega) (by omega)
  have a3 : 0 ≤ (M - p) * (N + q) := Int.mul_nonneg (by omega) (by omega)
  have a4 : 0 ≤ (M + p) * (N - q) := Int.mul_nonneg (by omega) (by omega)
  constructor <;> grind
theorem minusSp_any (x y u v : Int) (hx : In6 x) (hy : In6 y) (hu : In6 u) (hv : In6 v) (w : World) : Calls Try.prog 135 #[Sp x y, Sp u v] w (SpotP (x - u) (y - v) w) := by
  obtain ⟨x1, x2⟩ := hx; obtain ⟨y1, y2⟩ := hy; obtain ⟨u1, u2⟩ := hu; obtain ⟨v1, v2⟩ := hv
  go_enter Try.func135, Try.ntmps135
  go_wp2
  refine bodyPost_ret (v := Sp (x - u) (y - v)) (by simp [results, Try.results135, go_sem]) rfl ?_
  exact ⟨rfl, (((Below.refl _ _).alloc (Nat.le_refl _) _).alloc (by simp) _).alloc (by simp; omega) _⟩
theorem crossSp_any (x y u v p q : Int) (hp : x * v = p) (hq : y * u = q) (hpb : -4000000000000 ≤ p ∧ p ≤ 4000000000000) (hqb : -4000000000000 ≤ q ∧ q ≤ 4000000000000) (w : World) : Calls Try.prog 138 #[Sp x y, Sp u v] w (IntP (p - q) w) := by
  obtain ⟨p1, p2⟩ := hpb; obtain ⟨q1, q2⟩ := hqb
  go_enter Try.func138, Try.ntmps138
  go_wp2
  go_ret
  exact ⟨rfl, ((Below.refl _ _).alloc (Nat.le_refl _) _).alloc (by simp) _⟩
def turnSp (a b c d x y : Int) : Int := (c - a) * (y - b) - (d - b) * (x - a)
def sgnSp (z : Int) : Int := if z < 0 then -1 else if 0 < z then 1 else 0
set_option maxRecDepth 100000 in
theorem l4Turn_any (a b c d x y : Int) (ha : In6 a) (hb : In6 b) (hc : In6 c) (hd : In6 d) (hx : In6 x) (hy : In6 y) (w : World) :
    Calls Try.prog 103 #[Sp a b, Sp c d, Sp x y] w (IntP (sgnSp (turnSp a b c d x y)) w) := by
  have HR : turnSp a b c d x y = (c - a) * (y - b) - (d - b) * (x - a) := rfl
  obtain ⟨a1, a2⟩ := ha; obtain ⟨b1, b2⟩ := hb; obtain ⟨c1, c2⟩ := hc; obtain ⟨d1, d2⟩ := hd; obtain ⟨x1, x2⟩ := hx; obtain ⟨y1, y2⟩ := hy
  obtain ⟨p1, p2⟩ := mul_in (p := c - a) (q := y - b) (M := 2000000) (N := 2000000) (by omega) (by omega) (by omega) (by omega)
  obtain ⟨q1, q2⟩ := mul_in (p := d - b) (q := x - a) (M := 2000000) (N := 2000000) (by omega) (by omega) (by omega) (by omega)
  obtain ⟨p, hp⟩ : ∃ p, (c - a) * (y - b) = p := ⟨_, rfl⟩
  obtain ⟨q, hq⟩ : ∃ q, (d - b) * (x - a) = q := ⟨_, rfl⟩
  rw [hp] at p1 p2 HR
  rw [hq] at q1 q2 HR
  rw [HR]
  clear HR
  go_enter Try.func103, Try.ntmps103
  go_wp2
  all_goals go_ret
  all_goals exact ⟨ret_int (by unfold sgnSp; split <;> (try split) <;> omega), (((Below.refl _ _).alloc (Nat.le_refl _) _).alloc (by simp) _).alloc (by simp; omega) _⟩
theorem turnTo_cells {a b c d x y : Int} {w W : World} (h : ArgsB w W [[.int .i64 a, .int .i64 b, .int .i64 c, .int .i64 d], [.int .i64 x, .int .i64 y]]) : (fun w' => w'.cell? ⟨w.heap.size, 0, none⟩ = some (.int .i64 a) ∧ w'.cell? ⟨w.heap.size, 1, none⟩ = some (.int .i64 b) ∧ w'.cell? ⟨w.heap.size, 2, none⟩ = some (.int .i64 c) ∧ w'.cell? ⟨w.heap.size, 3, none⟩ = some (.int .i64 d) ∧ w'.cell? ⟨w.heap.size + 1, 0, none⟩ = some (.int .i64 x) ∧ w'.cell? ⟨w.heap.size + 1, 1, none⟩ = some (.int .i64 y)) W :=
  ⟨(h.b 0 rfl).c 0 rfl, (h.b 0 rfl).c 1 rfl, (h.b 0 rfl).c 2 rfl, (h.b 0 rfl).c 3 rfl, (h.b 1 rfl).c 0 rfl, (h.b 1 rfl).c 1 rfl⟩
theorem turnTo_start (a b c d x y : Int) (w : World) : ArgsB w ((w.alloc (.cells #[.int .i64 a, .int .i64 b, .int .i64 c, .int .i64 d] 95)).alloc (.cells #[.int .i64 x, .int .i64 y] 51)) [[.int .i64 a, .int .i64 b, .int .i64 c, .int .i64 d], [.int .i64 x, .int .i64 y]] := by
  refine ⟨((Below.refl _ _).alloc (Nat.le_refl _) _).alloc (by simp) _, fun j vs hj => ?_⟩
  match j, hj with
  | 0, hj => cases hj; exact (Blk.new w [.int .i64 a, .int .i64 b, .int .i64 c, .int .i64 d] 95 rfl).alloc _
  | 1, hj => cases hj; exact Blk.new (w.alloc (.cells #[.int .i64 a, .int .i64 b, .int .i64 c, .int .i64 d] 95)) [.int .i64 x, .int .i64 y] 51 (by simp)
  | j + 2, hj => simp at hj
set_option maxRecDepth 100000 in
set_option maxHeartbeats 1000000 in
theorem turnTo_any (a b c d x y : Int) (ha : In6 a) (hb : In6 b) (hc : In6 c) (hd : In6 d) (hx : In6 x) (hy : In6 y) (w : World) :
    Calls Try.prog 140 #[Sg a b c d, Sp x y] w (IntP (turnSp a b c d x y) w) := by
  have HP : -4000000000000 ≤ (c - a) * (y - b) ∧ (c - a) * (y - b) ≤ 4000000000000 := mul_in (M := 2000000) (N := 2000000) (by have := ha.1; have := ha.2; have := hc.1; have := hc.2; omega) (by have := ha.1; have := ha.2; have := hc.1; have := hc.2; omega) (by have := hb.1; have := hb.2; have := hy.1; have := hy.2; omega) (by have := hb.1; have := hb.2; have := hy.1; have := hy.2; omega)
  have HQ : -4000000000000 ≤ (d - b) * (x - a) ∧ (d - b) * (x - a) ≤ 4000000000000 := mul_in (M := 2000000) (N := 2000000) (by have := hb.1; have := hb.2; have := hd.1; have := hd.2; omega) (by have := hb.1; have := hb.2; have := hd.1; have := hd.2; omega) (by have := ha.1; have := ha.2; have := hx.1; have := hx.2; omega) (by have := ha.1; have := ha.2; have := hx.1; have := hx.2; omega)
  have T0 := turnTo_start a b c d x y w
  have tok1 : True := trivial
  go_enter Try.func140, Try.ntmps140
  go_upto_region 1 with fail
  generalize ((w.alloc (.cells #[.int .i64 a, .int .i64 b, .int .i64 c, .int .i64 d] 95)).alloc (.cells #[.int .i64 x, .int .i64 y] 51)) = W at *
  go_region_held3 (fun w' => w'.cell? ⟨w.heap.size, 0, none⟩ = some (.int .i64 a) ∧ w'.cell? ⟨w.heap.size, 1, none⟩ = some (.int .i64 b) ∧ w'.cell? ⟨w.heap.size, 2, none⟩ = some (.int .i64 c) ∧ w'.cell? ⟨w.heap.size, 3, none⟩ = some (.int .i64 d) ∧ w'.cell? ⟨w.heap.size + 1, 0, none⟩ = some (.int .i64 x) ∧ w'.cell? ⟨w.heap.size + 1, 1, none⟩ = some (.int .i64 y)) (first | (with_reducible exact turnTo_cells T0) | (with_reducible exact turnTo_cells T0.drew))
    (first
      | (go_at_call 135; have _t := tok1; refine (minusSp_any c d a b hc hd ha hb _).mono ?_; rintro e w1 ⟨rfl, hB⟩; (first | (have T1 := T0.step hB) | (have T1 := T0.drew.step hB)); clear T0; have T0 := T1; clear T1; clear hB tok1 _t)
      | (go_at_call 135; refine (minusSp_any x y a b hx hy ha hb _).mono ?_; rintro e w2 ⟨rfl, hB⟩; (first | (have T1 := T0.step hB) | (have T1 := T0.drew.step hB)); clear T0; have T0 := T1; clear T1; clear hB)
      | (go_at_call 138; refine (crossSp_any (c - a) (d - b) (x - a) (y - b) _ _ rfl rfl HP HQ _).mono ?_; rintro e w3 ⟨rfl, hB⟩; (first | (have T1 := T0.step hB) | (have T1 := T0.drew.step hB)); clear T0; have T0 := T1; clear T1; clear hB))
  all_goals go_wp2
  all_goals go_ret
  all_goals first | exact ⟨rfl, T0.below⟩ | exact ⟨rfl, T0.drew.below⟩
end Go.Proofs.Ytlfogfjehdgjmaa

/- The sides of a segment on which spots are: the walk of the program's loop. -/
namespace Go.Proofs.Ytlfogfjehdgjmaa
open Go.RowKit
structure PartI (w wr : World) (g : Nat) (sg sl : List Value) : Prop where
  below : Below w.heap.size w wr
  seg : Blk wr w.heap.size sg
  row : Blk wr g sl
theorem PartI.step {w wr wr' : World} {g : Nat} {sg sl : List Value} (h : PartI w wr g sg sl) (hB : Below wr.heap.size wr wr') : PartI w wr' g sg sl := ⟨h.below.trans (hB.mono h.below.size), h.seg.step hB, h.row.step hB⟩
theorem PartI.alloc {w wr : World} {g : Nat} {sg sl : List Value} (h : PartI w wr g sg sl) (o : Obj) : PartI w (wr.alloc o) g sg sl := h.step ((Below.refl _ _).alloc (Nat.le_refl _) o)
def lefts (ts : List Int) (k : Nat) : Bool := (ts.take k).any (fun t => decide (0 ≤ t))
def rights (ts : List Int) (k : Nat) : Bool := (ts.take k).any (fun t => decide (t ≤ 0))
theorem lefts_succ (ts : List Int) (k : Nat) (t : Int) (h : ts[k]? = some t) : lefts ts (k + 1) = (lefts ts k || decide (0 ≤ t)) := by
  unfold lefts
  rw [List.take_add_one, h]
  simp
theorem rights_succ (ts : List Int) (k : Nat) (t : Int) (h : ts[k]? = some t) : rights ts (k + 1) = (rights ts k || decide (t ≤ 0)) := by
  unfold rights
  rw [List.take_add_one, h]
  simp
set_option maxRecDepth 100000 in
set_option maxHeartbeats 2000000 in
theorem parts_any (a b c d x0 y0 x1 y1 x2 y2 x3 y3 : Int) (ha : In6 a) (hb : In6 b) (hc : In6 c) (hd : In6 d) (hx0 : In6 x0) (hy0 : In6 y0) (hx1 : In6 x1) (hy1 : In6 y1) (hx2 : In6 x2) (hy2 : In6 y2) (hx3 : In6 x3) (hy3 : In6 y3) (g : Nat) (w : World) (hS : Blk w g [.int .i64 x0, .int .i64 y0, .int .i64 x1, .int .i64 y1, .int .i64 x2, .int .i64 y2, .int .i64 x3, .int .i64 y3]) :
    Calls Try.prog 104 #[Sg a b c d, .slice (some ⟨g, 0, none⟩) 4 4] w (BoolP (lefts [turnSp a b c d x0 y0, turnSp a b c d x1 y1, turnSp a b c d x2 y2, turnSp a b c d x3 y3] 4 && rights [turnSp a b c d x0 y0, turnSp a b c d x1 y1, turnSp a b c d x2 y2, turnSp a b c d x3 y3] 4) w) := by
  obtain ⟨ts, hts⟩ : ∃ ts, [turnSp a b c d x0 y0, turnSp a b c d x1 y1, turnSp a b c d x2 y2, turnSp a b c d x3 y3] = ts := ⟨_, rfl⟩
  rw [hts]
  have I0 : PartI w (w.alloc (.cells #[.int .i64 a, .int .i64 b, .int .i64 c, .int .i64 d] 95)) g [.int .i64 a, .int .i64 b, .int .i64 c, .int .i64 d] [.int .i64 x0, .int .i64 y0, .int .i64 x1, .int .i64 y1, .int .i64 x2, .int .i64 y2, .int .i64 x3, .int .i64 y3] :=
    ⟨(Below.refl _ _).alloc (Nat.le_refl _) _, Blk.new w [.int .i64 a, .int .i64 b, .int .i64 c, .int .i64 d] 95 rfl, hS.alloc _⟩
  go_enter Try.func104, Try.ntmps104
  go_wp2
  generalize (w.alloc (.cells #[.int .i64 a, .int .i64 b, .int .i64 c, .int .i64 d] 95)) = W at *
  go_loopw [5, 6, 12] (fun l r i wr => ∃ k : Nat, k ≤ 4 ∧ i = .int .i64 k ∧ l = .bool (lefts ts k) ∧ r = .bool (rights ts k) ∧ PartI w wr g [.int .i64 a, .int .i64 b, .int .i64 c, .int .i64 d] [.int .i64 x0, .int .i64 y0, .int .i64 x1, .int .i64 y1, .int .i64 x2, .int .i64 y2, .int .i64 x3, .int .i64 y3]) (fun _ _ i _ => 4 - (intOf i).toNat)
  case atStart => exact ⟨0, by omega, rfl, rfl, rfl, I0⟩
  case round =>
    clear I0
    obtain ⟨k, hk, rfl, rfl, rfl, I0⟩ := hrel
    have ca0 := I0.seg.c 0 rfl; have ca1 := I0.seg.c 1 rfl; have ca2 := I0.seg.c 2 rfl; have ca3 := I0.seg.c 3 rfl; have calt := I0.seg.lt
    rcases (by omega : k = 0 ∨ k = 1 ∨ k = 2 ∨ k = 3 ∨ k = 4) with rfl | rfl | rfl | rfl | rfl
    · have e1 := I0.row.c 0 rfl; have e2 := I0.row.c 1 rfl
      have K1 := lefts_succ ts 0 (turnSp a b c d x0 y0) (by rw [← hts]; rfl)
      have K2 := rights_succ ts 0 (turnSp a b c d x0 y0) (by rw [← hts]; rfl)
      obtain ⟨L, hL⟩ : ∃ L, lefts ts 0 = L := ⟨_, rfl⟩
      obtain ⟨R, hR⟩ : ∃ R, rights ts 0 = R := ⟨_, rfl⟩
      rw [hL] at K1 ⊢; rw [hR] at K2 ⊢
      clear hL hR hts hS
      go_wp2_with fail
      refine (turnTo_any a b c d x0 y0 ha hb hc hd hx0 hy0 _).mono ?_
      rintro e w1 ⟨rfl, hB⟩
      replace I0 := (I0.alloc _).step hB
      clear ca0 ca1 ca2 ca3 calt e1 e2 hB
      generalize turnSp a b c d x0 y0 = t at *
      cases L <;> cases R
      all_goals go_wp2
      all_goals go_roundw
      all_goals first | exact ⟨0 + 1, by omega, rfl, by rw [K1]; simp, by rw [K2]; simp, I0⟩ | simp [intOf]
    · have e1 := I0.row.c 2 rfl; have e2 := I0.row.c 3 rfl
      have K1 := lefts_succ ts 1 (turnSp a b c d x1 y1) (by rw [← hts]; rfl)
      have K2 := rights_succ ts 1 (turnSp a b c d x1 y1) (by rw [← hts]; rfl)
      obtain ⟨L, hL⟩ : ∃ L, lefts ts 1 = L := ⟨_, rfl⟩
      obtain ⟨R, hR⟩ : ∃ R, rights ts 1 = R := ⟨_, rfl⟩
      rw [hL] at K1 ⊢; rw [hR] at K2 ⊢
      clear hL hR hts hS
      go_wp2_with fail
      refine (turnTo_any a b c d x1 y1 ha hb hc hd hx1 hy1 _).mono ?_
      rintro e w1 ⟨rfl, hB⟩
      replace I0 := (I0.alloc _).step hB
      clear ca0 ca1 ca2 ca3 calt e1 e2 hB
      generalize turnSp a b c d x1 y1 = t at *
      cases L <;> cases R
      all_goals go_wp2
      all_goals go_roundw
      all_goals first | exact ⟨1 + 1, by omega, rfl, by rw [K1]; simp, by rw [K2]; simp, I0⟩ | simp [intOf]
    · have e1 := I0.row.c 4 rfl; have e2 := I0.row.c 5 rfl
      have K1 := lefts_succ ts 2 (turnSp a b c d x2 y2) (by rw [← hts]; rfl)
      have K2 := rights_succ ts 2 (turnSp a b c d x2 y2) (by rw [← hts]; rfl)
      obtain ⟨L, hL⟩ : ∃ L, lefts ts 2 = L := ⟨_, rfl⟩
      obtain ⟨R, hR⟩ : ∃ R, rights ts 2 = R := ⟨_, rfl⟩
      rw [hL] at K1 ⊢; rw [hR] at K2 ⊢
      clear hL hR hts hS
      go_wp2_with fail
      refine (turnTo_any a b c d x2 y2 ha hb hc hd hx2 hy2 _).mono ?_
      rintro e w1 ⟨rfl, hB⟩
      replace I0 := (I0.alloc _).step hB
      clear ca0 ca1 ca2 ca3 calt e1 e2 hB
      generalize turnSp a b c d x2 y2 = t at *
      cases L <;> cases R
      all_goals go_wp2
      all_goals go_roundw
      all_goals first | exact ⟨2 + 1, by omega, rfl, by rw [K1]; simp, by rw [K2]; simp, I0⟩ | simp [intOf]
    · have e1 := I0.row.c 6 rfl; have e2 := I0.row.c 7 rfl
      have K1 := lefts_succ ts 3 (turnSp a b c d x3 y3) (by rw [← hts]; rfl)
      have K2 := rights_succ ts 3 (turnSp a b c d x3 y3) (by rw [← hts]; rfl)
      obtain ⟨L, hL⟩ : ∃ L, lefts ts 3 = L := ⟨_, rfl⟩
      obtain ⟨R, hR⟩ : ∃ R, rights ts 3 = R := ⟨_, rfl⟩
      rw [hL] at K1 ⊢; rw [hR] at K2 ⊢
      clear hL hR hts hS
      go_wp2_with fail
      refine (turnTo_any a b c d x3 y3 ha hb hc hd hx3 hy3 _).mono ?_
      rintro e w1 ⟨rfl, hB⟩
      replace I0 := (I0.alloc _).step hB
      clear ca0 ca1 ca2 ca3 calt e1 e2 hB
      generalize turnSp a b c d x3 y3 = t at *
      cases L <;> cases R
      all_goals go_wp2
      all_goals go_roundw
      all_goals first | exact ⟨3 + 1, by omega, rfl, by rw [K1]; simp, by rw [K2]; simp, I0⟩ | simp [intOf]
    · obtain ⟨L, hL⟩ : ∃ L, lefts ts 4 = L := ⟨_, rfl⟩
      obtain ⟨R, hR⟩ : ∃ R, rights ts 4 = R := ⟨_, rfl⟩
      rw [hL, hR]
      clear hts hS
      cases L <;> cases R
      all_goals go_wp2
      all_goals go_ret
      all_goals exact ⟨ret_bool (by rw [hL, hR]; rfl), I0.below⟩
end Go.Proofs.Ytlfogfjehdgjmaa

/- Whether a segment meets a box: the walk of the model's part that is asked of right ones. -/
namespace Go.Proofs.Ytlfogfjehdgjmaa
open Go.RowKit
def boxOut (a b c d x y u v : Int) : Bool := decide (c < x ∨ u < a ∨ (b < y ∧ d < y) ∨ (v < b ∧ v < d))
def ups (ts : List Int) (k : Nat) : Nat := (ts.take k).countP (fun t => decide (0 < t))
def downs (ts : List Int) (k : Nat) : Nat := (ts.take k).countP (fun t => decide (t < 0))
theorem ups_succ (ts : List Int) (k : Nat) (t : Int) (h : ts[k]? = some t) : ups ts (k + 1) = ups ts k + (if 0 < t then 1 else 0) := by
  unfold ups
  rw [List.take_add_one, h]
  simp [List.countP_append, List.countP_cons]
theorem downs_succ (ts : List Int) (k : Nat) (t : Int) (h : ts[k]? = some t) : downs ts (k + 1) = downs ts k + (if t < 0 then 1 else 0) := by
  unfold downs
  rw [List.take_add_one, h]
  simp [List.countP_append, List.countP_cons]
theorem ups_le (ts : List Int) (k : Nat) : ups ts k ≤ k := by
  unfold ups
  exact Nat.le_trans List.countP_le_length (by simp; omega)
theorem downs_le (ts : List Int) (k : Nat) : downs ts k ≤ k := by
  unfold downs
  exact Nat.le_trans List.countP_le_length (by simp; omega)
theorem ups_four (p q r s : Int) : decide (ups [p, q, r, s] 4 < 4) = rights [p, q, r, s] 4 := by
  unfold ups rights
  by_cases h0 : 0 < p <;> by_cases h1 : 0 < q <;> by_cases h2 : 0 < r <;> by_cases h3 : 0 < s <;> simp [h0, h1, h2, h3] <;> omega
theorem downs_four (p q r s : Int) : decide (downs [p, q, r, s] 4 < 4) = lefts [p, q, r, s] 4 := by
  unfold downs lefts
  by_cases h0 : p < 0 <;> by_cases h1 : q < 0 <;> by_cases h2 : r < 0 <;> by_cases h3 : s < 0 <;> simp [h0, h1, h2, h3] <;> omega
theorem box_start (a b c d x y u v : Int) (w : World) (t1 t2 t3 : TypeId) : ArgsB w (((w.alloc (.cells #[.int .i64 a, .int .i64 b, .int .i64 c, .int .i64 d] t1)).alloc (.cells #[.int .i64 x, .int .i64 y] t2)).alloc (.cells #[.int .i64 u, .int .i64 v] t3)) [[.int .i64 a, .int .i64 b, .int .i64 c, .int .i64 d], [.int .i64 x, .int .i64 y], [.int .i64 u, .int .i64 v]] := by
  refine ⟨(((Below.refl _ _).alloc (Nat.le_refl _) _).alloc (by simp) _).alloc (by simp; omega) _, fun j vs hj => ?_⟩
  match j, hj with
  | 0, hj => cases hj; exact ((Blk.new w [.int .i64 a, .int .i64 b, .int .i64 c, .int .i64 d] t1 rfl).alloc _).alloc _
  | 1, hj => cases hj; exact (Blk.new (w.alloc (.cells #[.int .i64 a, .int .i64 b, .int .i64 c, .int .i64 d] t1)) [.int .i64 x, .int .i64 y] t2 (by simp)).alloc _
  | 2, hj => cases hj; exact Blk.new ((w.alloc (.cells #[.int .i64 a, .int .i64 b, .int .i64 c, .int .i64 d] t1)).alloc (.cells #[.int .i64 x, .int .i64 y] t2)) [.int .i64 u, .int .i64 v] t3 (by simp)
  | j + 3, hj => simp at hj
set_option maxRecDepth 100000 in
set_option maxHeartbeats 2000000 in
theorem l4MeetsBox_any (a b c d x y u v : Int) (ha : In6 a) (hb : In6 b) (hc : In6 c) (hd : In6 d) (hx : In6 x) (hy : In6 y) (hu : In6 u) (hv : In6 v) (w : World) :
    Calls Try.prog 69 #[Sg a b c d, Sp x y, Sp u v] w (BoolP (!boxOut a b c d x y u v && (lefts [turnSp a b c d x y, turnSp a b c d u v, turnSp a b c d x v, turnSp a b c d u y] 4 && rights [turnSp a b c d x y, turnSp a b c d u v, turnSp a b c d x v, turnSp a b c d u y] 4)) w) := by
  obtain ⟨ts, hts⟩ : ∃ ts, [turnSp a b c d x y, turnSp a b c d u v, turnSp a b c d x v, turnSp a b c d u y] = ts := ⟨_, rfl⟩
  have HF1 := ups_four (turnSp a b c d x y) (turnSp a b c d u v) (turnSp a b c d x v) (turnSp a b c d u y)
  have HF2 := downs_four (turnSp a b c d x y) (turnSp a b c d u v) (turnSp a b c d x v) (turnSp a b c d u y)
  rw [hts] at HF1 HF2 ⊢
  have T0 := box_start a b c d x y u v w 95 51 51
  go_enter Try.func69, Try.ntmps69
  go_upto_region 1 with fail
  generalize (((w.alloc (.cells #[.int .i64 a, .int .i64 b, .int .i64 c, .int .i64 d] 95)).alloc (.cells #[.int .i64 x, .int .i64 y] 51)).alloc (.cells #[.int .i64 u, .int .i64 v] 51)) = W at *
  go_cut [56] (fun q wx => q = .bool (boxOut a b c d x y u v) ∧ ArgsB w wx [[.int .i64 a, .int .i64 b, .int .i64 c, .int .i64 d], [.int .i64 x, .int .i64 y], [.int .i64 u, .int .i64 v]])
  case first =>
    have a0 := (T0.b 0 rfl).c 0 rfl; have a1 := (T0.b 0 rfl).c 1 rfl; have a2 := (T0.b 0 rfl).c 2 rfl; have a3 := (T0.b 0 rfl).c 3 rfl; have b0 := (T0.b 1 rfl).c 0 rfl; have b1 := (T0.b 1 rfl).c 1 rfl; have c0 := (T0.b 2 rfl).c 0 rfl; have c1 := (T0.b 2 rfl).c 1 rfl; have alt := (T0.b 2 rfl).lt
    simp only [Nat.add_zero] at a0 a1 a2 a3
    go_wp2
    all_goals go_meet
    all_goals refine ⟨?_, T0⟩
    all_goals (apply congrArg Value.bool; unfold boxOut; rw [Bool.eq_iff_iff]; simp; try omega)
  case rest =>
    clear T0
    obtain ⟨hq, T0⟩ := hcut
    subst hq
    have a0 := (T0.b 0 rfl).c 0 rfl; have a1 := (T0.b 0 rfl).c 1 rfl; have a2 := (T0.b 0 rfl).c 2 rfl; have a3 := (T0.b 0 rfl).c 3 rfl; have b0 := (T0.b 1 rfl).c 0 rfl; have b1 := (T0.b 1 rfl).c 1 rfl; have c0 := (T0.b 2 rfl).c 0 rfl; have c1 := (T0.b 2 rfl).c 1 rfl; have alt := (T0.b 2 rfl).lt
    simp only [Nat.add_zero] at a0 a1 a2 a3
    obtain ⟨O, hO⟩ : ∃ O, boxOut a b c d x y u v = O := ⟨_, rfl⟩
    rw [hO]
    cases O
    · go_wp2
      have I0 : PartI w (wc.alloc (.cells #[.int .i64 x, .int .i64 y, .int .i64 u, .int .i64 v, .int .i64 x, .int .i64 v, .int .i64 u, .int .i64 y] 51)) wc.heap.size [.int .i64 a, .int .i64 b, .int .i64 c, .int .i64 d] [.int .i64 x, .int .i64 y, .int .i64 u, .int .i64 v, .int .i64 x, .int .i64 v, .int .i64 u, .int .i64 y] :=
        ⟨T0.below.alloc T0.below.size _, (T0.b 0 rfl).alloc _, Blk.new wc [.int .i64 x, .int .i64 y, .int .i64 u, .int .i64 v, .int .i64 x, .int .i64 v, .int .i64 u, .int .i64 y] 51 rfl⟩
      clear a0 a1 a2 a3 b0 b1 c0 c1 alt T0
      generalize wc.alloc (.cells #[.int .i64 x, .int .i64 y, .int .i64 u, .int .i64 v, .int .i64 x, .int .i64 v, .int .i64 u, .int .i64 y] 51) = W1 at *
      generalize wc.heap.size = g at *
      go_loopw [7, 8, 71] (fun o p i wr => ∃ k : Nat, k ≤ 4 ∧ i = .int .i64 k ∧ o = .int .i64 (ups ts k) ∧ p = .int .i64 (downs ts k) ∧ PartI w wr g [.int .i64 a, .int .i64 b, .int .i64 c, .int .i64 d] [.int .i64 x, .int .i64 y, .int .i64 u, .int .i64 v, .int .i64 x, .int .i64 v, .int .i64 u, .int .i64 y]) (fun _ _ i _ => 4 - (intOf i).toNat)
      case atStart => exact ⟨0, by omega, rfl, rfl, rfl, I0⟩
      case round =>
        clear I0
        obtain ⟨k, hk, rfl, rfl, rfl, I0⟩ := hrel
        have ca0 := I0.seg.c 0 rfl; have ca1 := I0.seg.c 1 rfl; have ca2 := I0.seg.c 2 rfl; have ca3 := I0.seg.c 3 rfl; have calt := I0.seg.lt
        have U := ups_le ts k
        have D := downs_le ts k
        rcases (by omega : k = 0 ∨ k = 1 ∨ k = 2 ∨ k = 3 ∨ k = 4) with rfl | rfl | rfl | rfl | rfl
        · have e1 := I0.row.c 0 rfl; have e2 := I0.row.c 1 rfl
          have K1 := ups_succ ts 0 (turnSp a b c d x y) (by rw [← hts]; rfl)
          have K2 := downs_succ ts 0 (turnSp a b c d x y) (by rw [← hts]; rfl)
          obtain ⟨L, hL⟩ : ∃ L, ups ts 0 = L := ⟨_, rfl⟩
          obtain ⟨R, hR⟩ : ∃ R, downs ts 0 = R := ⟨_, rfl⟩
          rw [hL] at K1 U ⊢; rw [hR] at K2 D ⊢
          clear hL hR hts HF1 HF2
          go_wp2_with fail
          refine (l4Turn_any a b c d x y ha hb hc hd hx hy _).mono ?_
          rintro e w1 ⟨rfl, hB⟩
          replace I0 := (I0.alloc _).step hB
          clear ca0 ca1 ca2 ca3 calt e1 e2 hB
          generalize turnSp a b c d x y = t at *
          rcases Int.lt_trichotomy t 0 with ht | ht | ht
          · have hs : sgnSp t = -1 := by unfold sgnSp; rw [if_pos ht]
            rw [if_neg (by omega)] at K1; rw [if_pos ht] at K2
            rw [hs]
            go_wp2
            all_goals go_roundw
            all_goals first | exact ⟨0 + 1, by omega, rfl, by rw [K1]; simp, by rw [K2]; simp, I0⟩ | simp [intOf]
          · have hs : sgnSp t = 0 := by unfold sgnSp; rw [if_neg (by omega), if_neg (by omega)]
            rw [if_neg (by omega)] at K1; rw [if_neg (by omega)] at K2
            rw [hs]
            go_wp2
            all_goals go_roundw
            all_goals first | exact ⟨0 + 1, by omega, rfl, by rw [K1]; simp, by rw [K2]; simp, I0⟩ | simp [intOf]
          · have hs : sgnSp t = 1 := by unfold sgnSp; rw [if_neg (by omega), if_pos ht]
            rw [if_pos ht] at K1; rw [if_neg (by omega)] at K2
            rw [hs]
            go_wp2
            all_goals go_roundw
            all_goals first | exact ⟨0 + 1, by omega, rfl, by rw [K1]; simp, by rw [K2]; simp, I0⟩ | simp [intOf]
        · have e1 := I0.row.c 2 rfl; have e2 := I0.row.c 3 rfl
          have K1 := ups_succ ts 1 (turnSp a b c d u v) (by rw [← hts]; rfl)
          have K2 := downs_succ ts 1 (turnSp a b c d u v) (by rw [← hts]; rfl)
          obtain ⟨L, hL⟩ : ∃ L, ups ts 1 = L := ⟨_, rfl⟩
          obtain ⟨R, hR⟩ : ∃ R, downs ts 1 = R := ⟨_, rfl⟩
          rw [hL] at K1 U ⊢; rw [hR] at K2 D ⊢
          clear hL hR hts HF1 HF2
          go_wp2_with fail
          refine (l4Turn_any a b c d u v ha hb hc hd hu hv _).mono ?_
          rintro e w1 ⟨rfl, hB⟩
          replace I0 := (I0.alloc _).step hB
          clear ca0 ca1 ca2 ca3 calt e1 e2 hB
          generalize turnSp a b c d u v = t at *
          rcases Int.lt_trichotomy t 0 with ht | ht | ht
          · have hs : sgnSp t = -1 := by unfold sgnSp; rw [if_pos ht]
            rw [if_neg (by omega)] at K1; rw [if_pos ht] at K2
            rw [hs]
            go_wp2
            all_goals go_roundw
            all_goals first | exact ⟨1 + 1, by omega, rfl, by rw [K1]; simp, by rw [K2]; simp, I0⟩ | simp [intOf]
          · have hs : sgnSp t = 0 := by unfold sgnSp; rw [if_neg (by omega), if_neg (by omega)]
            rw [if_neg (by omega)] at K1; rw [if_neg (by omega)] at K2
            rw [hs]
            go_wp2
            all_goals go_roundw
            all_goals first | exact ⟨1 + 1, by omega, rfl, by rw [K1]; simp, by rw [K2]; simp, I0⟩ | simp [intOf]
          · have hs : sgnSp t = 1 := by unfold sgnSp; rw [if_neg (by omega), if_pos ht]
            rw [if_pos ht] at K1; rw [if_neg (by omega)] at K2
            rw [hs]
            go_wp2
            all_goals go_roundw
            all_goals first | exact ⟨1 + 1, by omega, rfl, by rw [K1]; simp, by rw [K2]; simp, I0⟩ | simp [intOf]
        · have e1 := I0.row.c 4 rfl; have e2 := I0.row.c 5 rfl
          have K1 := ups_succ ts 2 (turnSp a b c d x v) (by rw [← hts]; rfl)
          have K2 := downs_succ ts 2 (turnSp a b c d x v) (by rw [← hts]; rfl)
          obtain ⟨L, hL⟩ : ∃ L, ups ts 2 = L := ⟨_, rfl⟩
          obtain ⟨R, hR⟩ : ∃ R, downs ts 2 = R := ⟨_, rfl⟩
          rw [hL] at K1 U ⊢; rw [hR] at K2 D ⊢
          clear hL hR hts HF1 HF2
          go_wp2_with fail
          refine (l4Turn_any a b c d x v ha hb hc hd hx hv _).mono ?_
          rintro e w1 ⟨rfl, hB⟩
          replace I0 := (I0.alloc _).step hB
          clear ca0 ca1 ca2 ca3 calt e1 e2 hB
          generalize turnSp a b c d x v = t at *
          rcases Int.lt_trichotomy t 0 with ht | ht | ht
          · have hs : sgnSp t = -1 := by unfold sgnSp; rw [if_pos ht]
            rw [if_neg (by omega)] at K1; rw [if_pos ht] at K2
            rw [hs]
            go_wp2
            all_goals go_roundw
            all_goals first | exact ⟨2 + 1, by omega, rfl, by rw [K1]; simp, by rw [K2]; simp, I0⟩ | simp [intOf]
          · have hs : sgnSp t = 0 := by unfold sgnSp; rw [if_neg (by omega), if_neg (by omega)]
            rw [if_neg (by omega)] at K1; rw [if_neg (by omega)] at K2
            rw [hs]
            go_wp2
            all_goals go_roundw
            all_goals first | exact ⟨2 + 1, by omega, rfl, by rw [K1]; simp, by rw [K2]; simp, I0⟩ | simp [intOf]
          · have hs : sgnSp t = 1 := by unfold sgnSp; rw [if_neg (by omega), if_pos ht]
            rw [if_pos ht] at K1; rw [if_neg (by omega)] at K2
            rw [hs]
            go_wp2
            all_goals go_roundw
            all_goals first | exact ⟨2 + 1, by omega, rfl, by rw [K1]; simp, by rw [K2]; simp, I0⟩ | simp [intOf]
        · have e1 := I0.row.c 6 rfl; have e2 := I0.row.c 7 rfl
          have K1 := ups_succ ts 3 (turnSp a b c d u y) (by rw [← hts]; rfl)
          have K2 := downs_succ ts 3 (turnSp a b c d u y) (by rw [← hts]; rfl)
          obtain ⟨L, hL⟩ : ∃ L, ups ts 3 = L := ⟨_, rfl⟩
          obtain ⟨R, hR⟩ : ∃ R, downs ts 3 = R := ⟨_, rfl⟩
          rw [hL] at K1 U ⊢; rw [hR] at K2 D ⊢
          clear hL hR hts HF1 HF2
          go_wp2_with fail
          refine (l4Turn_any a b c d u y ha hb hc hd hu hy _).mono ?_
          rintro e w1 ⟨rfl, hB⟩
          replace I0 := (I0.alloc _).step hB
          clear ca0 ca1 ca2 ca3 calt e1 e2 hB
          generalize turnSp a b c d u y = t at *
          rcases Int.lt_trichotomy t 0 with ht | ht | ht
          · have hs : sgnSp t = -1 := by unfold sgnSp; rw [if_pos ht]
            rw [if_neg (by omega)] at K1; rw [if_pos ht] at K2
            rw [hs]
            go_wp2
            all_goals go_roundw
            all_goals first | exact ⟨3 + 1, by omega, rfl, by rw [K1]; simp, by rw [K2]; simp, I0⟩ | simp [intOf]
          · have hs : sgnSp t = 0 := by unfold sgnSp; rw [if_neg (by omega), if_neg (by omega)]
            rw [if_neg (by omega)] at K1; rw [if_neg (by omega)] at K2
            rw [hs]
            go_wp2
            all_goals go_roundw
            all_goals first | exact ⟨3 + 1, by omega, rfl, by rw [K1]; simp, by rw [K2]; simp, I0⟩ | simp [intOf]
          · have hs : sgnSp t = 1 := by unfold sgnSp; rw [if_neg (by omega), if_pos ht]
            rw [if_pos ht] at K1; rw [if_neg (by omega)] at K2
            rw [hs]
            go_wp2
            all_goals go_roundw
            all_goals first | exact ⟨3 + 1, by omega, rfl, by rw [K1]; simp, by rw [K2]; simp, I0⟩ | simp [intOf]
        · obtain ⟨L, hL⟩ : ∃ L, ups ts 4 = L := ⟨_, rfl⟩
          obtain ⟨R, hR⟩ : ∃ R, downs ts 4 = R := ⟨_, rfl⟩
          rw [hL] at HF1 U ⊢; rw [hR] at HF2 D ⊢
          clear hL hR hts
          go_wp2
          all_goals go_ret
          all_goals exact ⟨ret_bool (by first | (rw [hO, ← HF1, ← HF2, Bool.eq_iff_iff]; simp; done) | (rw [hO, ← HF1, ← HF2, Bool.eq_iff_iff]; simp; omega) | (rw [← HF1, ← HF2, Bool.eq_iff_iff]; simp; done) | (rw [← HF1, ← HF2, Bool.eq_iff_iff]; simp; omega)), I0.below⟩
    · go_wp2
      go_ret
      exact ⟨ret_bool (by rw [hO]; rfl), T0.below⟩
end Go.Proofs.Ytlfogfjehdgjmaa

/- Whether a segment meets a box: the walks of the program and of the model, and of the law. -/
namespace Go.Proofs.Ytlfogfjehdgjmaa
open Go.RowKit
def boxOk (x y u v : Int) : Bool := spotOk x y && spotOk u v && decide (x ≤ u) && decide (y ≤ v)
theorem in6_of_spot {x y : Int} (h : spotOk x y = true) : In6 x ∧ In6 y := by
  unfold spotOk at h
  simp at h
  exact ⟨⟨by omega, by omega⟩, ⟨by omega, by omega⟩⟩
theorem spots_of_seg {a b c d : Int} (h : segOk a b c d = true) : spotOk a b = true ∧ spotOk c d = true := by
  unfold segOk at h
  simp at h
  exact ⟨h.1.1, h.1.2⟩
set_option maxRecDepth 100000 in
set_option maxHeartbeats 1000000 in
theorem l4Box_any (x y u v : Int) (z : Bool) (hz : boxOk x y u v = z) (w : World) : Calls Try.prog 68 #[Sp x y, Sp u v] w (BoolP z w) := by
  have B0 := (Blk.new w [.int .i64 x, .int .i64 y] 51 rfl).alloc (.cells #[.int .i64 u, .int .i64 v] 51)
  have B1 := Blk.new (w.alloc (.cells #[.int .i64 x, .int .i64 y] 51)) [.int .i64 u, .int .i64 v] 51 (g := w.heap.size + 1) (by simp)
  have HB0 := ((Below.refl _ w).alloc (Nat.le_refl _) (.cells #[.int .i64 x, .int .i64 y] 51)).alloc (by simp) (.cells #[.int .i64 u, .int .i64 v] 51)
  by_cases h1 : spotOk x y = true
  · by_cases h2 : spotOk u v = true
    · go_enter Try.func68, Try.ntmps68
      go_wp2_with fail
      refine (specSpotOk_any _ _ true h1 _).mono ?_
      rintro e w1 ⟨rfl, hB⟩
      replace B0 := B0.step hB; replace B1 := B1.step hB
      have HB : Below w.heap.size w w1 := HB0.trans (hB.mono HB0.size)
      clear hB HB0
      have p0 := B0.c 0 rfl; have p1 := B0.c 1 rfl; have q0 := B1.c 0 rfl; have q1 := B1.c 1 rfl
      go_wp2_with fail
      refine (specSpotOk_any _ _ true h2 _).mono ?_
      rintro e w2 ⟨rfl, hB⟩
      have HB2 : Below w.heap.size w w2 := HB.trans (hB.mono HB.size)
      replace B0 := B0.step hB; replace B1 := B1.step hB
      clear hB HB p0 p1 q0 q1
      have p0 := B0.c 0 rfl; have p1 := B0.c 1 rfl; have q0 := B1.c 0 rfl; have q1 := B1.c 1 rfl
      go_wp2
      all_goals go_ret
      all_goals exact ⟨ret_bool (by rw [← hz]; unfold boxOk; rw [h1, h2, Bool.eq_iff_iff]; simp; try omega), HB2⟩
    · have h2 := Bool.eq_false_iff.2 h2
      go_enter Try.func68, Try.ntmps68
      go_wp2_with fail
      refine (specSpotOk_any _ _ true h1 _).mono ?_
      rintro e w1 ⟨rfl, hB⟩
      replace B0 := B0.step hB; replace B1 := B1.step hB
      have HB : Below w.heap.size w w1 := HB0.trans (hB.mono HB0.size)
      clear hB HB0
      have p0 := B0.c 0 rfl; have p1 := B0.c 1 rfl; have q0 := B1.c 0 rfl; have q1 := B1.c 1 rfl
      go_wp2_with fail
      refine (specSpotOk_any _ _ false h2 _).mono ?_
      rintro e w2 ⟨rfl, hB⟩
      have HB2 : Below w.heap.size w w2 := HB.trans (hB.mono HB.size)
      clear hB HB p0 p1 q0 q1
      go_wp2
      go_ret
      exact ⟨ret_bool (by rw [← hz]; simp [boxOk, h1, h2]), HB2⟩
  · have h1 := Bool.eq_false_iff.2 h1
    go_enter Try.func68, Try.ntmps68
    go_wp2_with fail
    refine (specSpotOk_any _ _ false h1 _).mono ?_
    rintro e w1 ⟨rfl, hB⟩
    have HB : Below w.heap.size w w1 := HB0.trans (hB.mono HB0.size)
    clear hB HB0
    go_wp2
    go_ret
    exact ⟨ret_bool (by rw [← hz]; simp [boxOk, h1]), HB⟩
end Go.Proofs.Ytlfogfjehdgjmaa

/- Whether a segment meets a box: the walk of the program. -/
namespace Go.Proofs.Ytlfogfjehdgjmaa
open Go.RowKit
set_option maxRecDepth 100000 in
set_option maxHeartbeats 2000000 in
theorem isBox_any (x y u v : Int) (w : World) : Calls Try.prog 70 #[Sp x y, Sp u v] w (BoolP (boxOk x y u v) w) := by
  have B0 := (Blk.new w [.int .i64 x, .int .i64 y] 51 rfl).alloc (.cells #[.int .i64 u, .int .i64 v] 51)
  have B1 := Blk.new (w.alloc (.cells #[.int .i64 x, .int .i64 y] 51)) [.int .i64 u, .int .i64 v] 51 (g := w.heap.size + 1) (by simp)
  have HB : Below w.heap.size w ((w.alloc (.cells #[.int .i64 x, .int .i64 y] 51)).alloc (.cells #[.int .i64 u, .int .i64 v] 51)) := ((Below.refl _ w).alloc (Nat.le_refl _) _).alloc (by simp) _
  go_enter Try.func70, Try.ntmps70
  go_upto_region 1 with fail
  generalize ((w.alloc (.cells #[.int .i64 x, .int .i64 y] 51)).alloc (.cells #[.int .i64 u, .int .i64 v] 51)) = W at *
  have b0 := B0.c 0 rfl; have b1 := B0.c 1 rfl; have c0 := B1.c 0 rfl; have c1 := B1.c 1 rfl
  by_cases h2 : spotOk x y = true
  · by_cases h3 : spotOk u v = true
    · skip
      go_wp2_with fail
      refine (implSpotOk_any _ _ true h2 _).mono ?_
      rintro e w1 ⟨rfl, hB⟩
      replace B0 := B0.step hB; replace B1 := B1.step hB; replace HB := HB.trans (hB.mono HB.size)
      clear hB
      clear b0 b1 c0 c1
      have b0 := B0.c 0 rfl; have b1 := B0.c 1 rfl; have c0 := B1.c 0 rfl; have c1 := B1.c 1 rfl
      go_wp2_with fail
      refine (implSpotOk_any _ _ true h3 _).mono ?_
      rintro e w2 ⟨rfl, hB⟩
      replace B0 := B0.step hB; replace B1 := B1.step hB; replace HB := HB.trans (hB.mono HB.size)
      clear hB
      clear b0 b1 c0 c1
      have b0 := B0.c 0 rfl; have b1 := B0.c 1 rfl; have c0 := B1.c 0 rfl; have c1 := B1.c 1 rfl
      by_cases h4 : x ≤ u
      · have HO : Hid (boxOk x y u v = decide (y ≤ v)) := by show _ = _; simp [boxOk, h2, h3, h4]
        clear h2 h3
        go_wp2
        all_goals go_ret
        all_goals exact ⟨ret_bool (by rw [HO.out]), HB⟩
      · have HO : Hid (boxOk x y u v = false) := by show _ = _; simp [boxOk, h4]
        have h4' : u < x := by omega
        clear h2 h3 h4
        go_wp2
        all_goals go_ret
        all_goals exact ⟨ret_bool (by rw [HO.out]), HB⟩
    · have h3 := Bool.eq_false_iff.2 h3
      have HO : Hid (boxOk x y u v = false) := by show _ = _; simp [boxOk, h3]
      go_wp2_with fail
      refine (implSpotOk_any _ _ true h2 _).mono ?_
      rintro e w1 ⟨rfl, hB⟩
      replace B0 := B0.step hB; replace B1 := B1.step hB; replace HB := HB.trans (hB.mono HB.size)
      clear hB
      clear b0 b1 c0 c1
      have b0 := B0.c 0 rfl; have b1 := B0.c 1 rfl; have c0 := B1.c 0 rfl; have c1 := B1.c 1 rfl
      go_wp2_with fail
      refine (implSpotOk_any _ _ false h3 _).mono ?_
      rintro e w2 ⟨rfl, hB⟩
      replace B0 := B0.step hB; replace B1 := B1.step hB; replace HB := HB.trans (hB.mono HB.size)
      clear hB
      clear b0 b1 c0 c1 h2 h3
      go_wp2
      all_goals go_ret
      all_goals exact ⟨ret_bool (by rw [HO.out]), HB⟩
  · have h2 := Bool.eq_false_iff.2 h2
    have HO : Hid (boxOk x y u v = false) := by show _ = _; simp [boxOk, h2]
    go_wp2_with fail
    refine (implSpotOk_any _ _ false h2 _).mono ?_
    rintro e w1 ⟨rfl, hB⟩
    replace B0 := B0.step hB; replace B1 := B1.step hB; replace HB := HB.trans (hB.mono HB.size)
    clear hB
    clear b0 b1 c0 c1 h2
    go_wp2
    all_goals go_ret
    all_goals exact ⟨ret_bool (by rw [HO.out]), HB⟩
set_option maxRecDepth 100000 in
set_option maxHeartbeats 2000000 in
theorem meetsBox_any (a b c d x y u v : Int) (ha : In6 a) (hb : In6 b) (hc : In6 c) (hd : In6 d) (hx : In6 x) (hy : In6 y) (hu : In6 u) (hv : In6 v) (w : World) : Calls Try.prog 71 #[Sg a b c d, Sp x y, Sp u v] w (BoolP (!boxOut a b c d x y u v && (lefts [turnSp a b c d x y, turnSp a b c d u v, turnSp a b c d x v, turnSp a b c d u y] 4 && rights [turnSp a b c d x y, turnSp a b c d u v, turnSp a b c d x v, turnSp a b c d u y] 4)) w) := by
  have T0 := box_start a b c d x y u v w 95 51 51
  go_enter Try.func71, Try.ntmps71
  go_upto_region 1 with fail
  generalize (((w.alloc (.cells #[.int .i64 a, .int .i64 b, .int .i64 c, .int .i64 d] 95)).alloc (.cells #[.int .i64 x, .int .i64 y] 51)).alloc (.cells #[.int .i64 u, .int .i64 v] 51)) = W at *
  have a0 := (T0.b 0 rfl).c 0 rfl; have a1 := (T0.b 0 rfl).c 1 rfl; have a2 := (T0.b 0 rfl).c 2 rfl; have a3 := (T0.b 0 rfl).c 3 rfl; have b0 := (T0.b 1 rfl).c 0 rfl; have b1 := (T0.b 1 rfl).c 1 rfl; have c0 := (T0.b 2 rfl).c 0 rfl; have c1 := (T0.b 2 rfl).c 1 rfl; have alt := (T0.b 2 rfl).lt; simp only [Nat.add_zero] at a0 a1 a2 a3
  go_cut [44] (fun q wx => q = .bool (boxOut a b c d x y u v) ∧ ArgsB w wx [[.int .i64 a, .int .i64 b, .int .i64 c, .int .i64 d], [.int .i64 x, .int .i64 y], [.int .i64 u, .int .i64 v]])
  case first =>
    go_wp2
    all_goals go_meet
    all_goals refine ⟨?_, T0⟩
    all_goals (apply congrArg Value.bool; unfold boxOut; rw [Bool.eq_iff_iff]; simp; try omega)
  case rest =>
    clear a0 a1 a2 a3 b0 b1 c0 c1 alt T0
    obtain ⟨hq, T0⟩ := hcut
    subst hq
    have a0 := (T0.b 0 rfl).c 0 rfl; have a1 := (T0.b 0 rfl).c 1 rfl; have a2 := (T0.b 0 rfl).c 2 rfl; have a3 := (T0.b 0 rfl).c 3 rfl; have b0 := (T0.b 1 rfl).c 0 rfl; have b1 := (T0.b 1 rfl).c 1 rfl; have c0 := (T0.b 2 rfl).c 0 rfl; have c1 := (T0.b 2 rfl).c 1 rfl; have alt := (T0.b 2 rfl).lt; simp only [Nat.add_zero] at a0 a1 a2 a3
    obtain ⟨M, hM⟩ : ∃ M, boxOut a b c d x y u v = M := ⟨_, rfl⟩
    rw [hM]
    cases M
    · go_wp2_with fail
      refine (parts_any a b c d x y u v x v u y ha hb hc hd hx hy hu hv hx hv hu hy wc.heap.size _ (Blk.new wc [.int .i64 x, .int .i64 y, .int .i64 u, .int .i64 v, .int .i64 x, .int .i64 v, .int .i64 u, .int .i64 y] 51 rfl)).mono ?_
      rintro e w4 ⟨rfl, hB⟩
      have HB : Below w.heap.size w w4 := (T0.alloc _).below.trans (hB.mono (T0.alloc _).below.size)
      clear hB a0 a1 a2 a3 b0 b1 c0 c1 alt T0
      go_wp2
      go_ret
      exact ⟨ret_bool (by simp [hM]), HB⟩
    · have HBF := T0.below
      clear a0 a1 a2 a3 b0 b1 c0 c1 alt T0
      go_wp2
      go_ret
      exact ⟨ret_bool (by simp [hM]), HBF⟩
end Go.Proofs.Ytlfogfjehdgjmaa

/- Segments that meet a box, by their numbers: both sides. -/
namespace Go.Proofs.Ytlfogfjehdgjmaa
open Go.RowKit
/-- A right segment meets a box. -/
def hitB (a b c d x y u v : Int) : Bool := !boxOut a b c d x y u v && (lefts [turnSp a b c d x y, turnSp a b c d u v, turnSp a b c d x v, turnSp a b c d u y] 4 && rights [turnSp a b c d x y, turnSp a b c d u v, turnSp a b c d x v, turnSp a b c d u y] 4)
def hitAt (x : Nat → Int) (p q u v : Int) (i : Nat) : Bool := hitB (x (i * 4)) (x (i * 4 + 1)) (x (i * 4 + 2)) (x (i * 4 + 3)) p q u v
/-- The numbers of those of the first c that meet it. -/
def winL (x : Nat → Int) (p q u v : Int) (c : Nat) : List Int := ((List.range c).filter (hitAt x p q u v)).map fun (i : Nat) => (i : Int)
theorem winL_hit {x : Nat → Int} {p q u v : Int} {c : Nat} (h : hitAt x p q u v c = true) : winL x p q u v (c + 1) = winL x p q u v c ++ [(c : Int)] := by simp [winL, List.range_succ, List.filter_append, h]
theorem winL_miss {x : Nat → Int} {p q u v : Int} {c : Nat} (h : hitAt x p q u v c = false) : winL x p q u v (c + 1) = winL x p q u v c := by simp [winL, List.range_succ, List.filter_append, h]
theorem winL_len (x : Nat → Int) (p q u v : Int) (c : Nat) : (winL x p q u v c).length ≤ c := by
  unfold winL
  rw [List.length_map]
  exact Nat.le_trans (List.length_filter_le _ _) (by simp)
def winOk (n : Nat) (x : Nat → Int) (p q u v : Int) : Bool := decide (sgI n x = 0) && boxOk p q u v
def winR (n : Nat) (x : Nat → Int) (p q u v : Int) : List Int := if winOk n x p q u v then winL x p q u v n else []
/-- What is told of the segments that meet a box: a row of its own, and whether it is told. -/
def WinP (b : Bool) (L : List Int) (w : World) (e : Ending) (w' : World) : Prop := ∃ v, e = .returned (.tuple #[v, .bool b]) ∧ NoOwn w' w.heap.size v L ∧ Below w.heap.size w w'
theorem sgI_zero {n : Nat} {x : Nat → Int} (h : sgI n x = 0) : n ≤ 40 ∧ ∀ i, i < n → segOk (x (i * 4)) (x (i * 4 + 1)) (x (i * 4 + 2)) (x (i * 4 + 3)) = true := by
  unfold sgI at h
  split at h
  · cases h
  · split at h
    · exact ⟨by omega, by assumption⟩
    · cases h
theorem win_start (x y u v : Int) (w : World) (T : TypeId) : ArgsB w ((w.alloc (.cells #[.int .i64 x, .int .i64 y] T)).alloc (.cells #[.int .i64 u, .int .i64 v] T)) [[.int .i64 x, .int .i64 y], [.int .i64 u, .int .i64 v]] := by
  refine ⟨((Below.refl _ _).alloc (Nat.le_refl _) _).alloc (by simp) _, fun j vs hj => ?_⟩
  match j, hj with
  | 0, hj => cases hj; exact (Blk.new w [.int .i64 x, .int .i64 y] T rfl).alloc _
  | 1, hj => cases hj; exact Blk.new (w.alloc (.cells #[.int .i64 x, .int .i64 y] T)) [.int .i64 u, .int .i64 v] T (by simp)
  | j + 2, hj => simp at hj
theorem own_step {w w' : World} {base n : Nat} {e : TypeId} {v : Value} {xs : List Value} (h : w.ownsRow base e 1 v n xs) (hB : Below w.heap.size w w') : w'.ownsRow base e 1 v n xs := by
  rcases h with ⟨h0, h1 | ⟨g, cap, cur, h1, h2, h3, h4⟩⟩
  · exact ⟨h0, .inl h1⟩
  · refine ⟨h0, .inr ⟨g, cap, cur, h1, h2, ?_, h4⟩⟩
    rw [hB.block g (Array.getElem?_eq_some_iff.1 h3).1]
    exact h3
theorem argsB_grown {w W W' : World} {vss : List (List Value)} {row : Option Nat} (h : ArgsB w W vss) (hl : w.heap.size + vss.length ≤ W.heap.size) (hg : W.grownBy W' row) (hr : ∀ k, row = some k → w.heap.size + vss.length ≤ k) : ArgsB w W' vss := by
  have hB : Below (w.heap.size + vss.length) W W' := (Below.refl _ W).grown hg hl hr
  refine ⟨h.1.trans (hB.mono (by omega)), fun j vs hj => (h.2 j vs hj).below hB ?_⟩
  have := (List.getElem?_eq_some_iff.1 hj).1
  omega
theorem NoOwn.mono {w : World} {b b' : Nat} {v : Value} {L : List Int} (h : NoOwn w b' v L) (hb : b ≤ b') : NoOwn w b v L := by
  rcases h with h | ⟨g, cap, f, h1, h2, h3⟩
  · exact .inl h
  · exact .inr ⟨g, cap, f, h1, by omega, h3⟩
set_option maxRecDepth 100000 in
theorem l7Ok_any (ao : Option Addr) (n cap : Nat) (x : Nat → Int) (w : World) (hS : SegIn w ao n x) : Calls Try.prog 58 #[.slice ao n cap] w (BoolP (decide (sgI n x = 0)) w) := by
  have C := specSegsFault_any ao n cap x w hS
  revert C
  generalize sgI n x = o
  intro C
  clear hS
  go_enter Try.func58, Try.ntmps58
  go_wp2_with fail
  refine C.mono ?_
  rintro e w1 ⟨rfl, hB⟩
  by_cases h : o = 0
  · subst h
    go_wp2
    go_ret
    exact ⟨rfl, hB⟩
  · have hf : (o == 0) = false := by simp; omega
    have HD : Hid (decide (o = 0) = false) := decide_eq_false h
    go_wp2
    go_ret
    exact ⟨by rw [HD.out]; rfl, hB⟩
set_option maxRecDepth 100000 in
set_option maxHeartbeats 4000000 in
theorem specWindow_any (ao : Option Addr) (n cap : Nat) (x : Nat → Int) (p q u v : Int) (w : World) (hS : SegIn w ao n x) : Calls Try.prog 32 #[.slice ao n cap, Sp p q, Sp u v] w (WinP (winOk n x p q u v) (winR n x p q u v) w) := by
  have T0 := win_start p q u v w 51
  have HS : Hid (SegIn w ao n x) := hS
  clear hS
  go_enter Try.func32, Try.ntmps32
  go_wp2_with fail
  generalize ((w.alloc (.cells #[.int .i64 p, .int .i64 q] 51)).alloc (.cells #[.int .i64 u, .int .i64 v] 51)) = W at *
  refine (l7Ok_any ao n cap x _ (HS.out.step T0.below)).mono ?_
  rintro e w1 ⟨rfl, hB⟩
  replace T0 := T0.step hB
  clear hB
  by_cases hsg : sgI n x = 0
  · rw [decide_eq_true hsg]
    have X0 : Blk _ w.heap.size _ := T0.b 0 rfl; have X1 : Blk _ (w.heap.size + 1) _ := T0.b 1 rfl; have a0 := X0.c 0 rfl; have a1 := X0.c 1 rfl; have b0 := X1.c 0 rfl; have b1 := X1.c 1 rfl
    go_wp2_with fail
    refine (l4Box_any p q u v _ rfl _).mono ?_
    rintro e w2 ⟨rfl, hB⟩
    clear X0 X1 a0 a1 b0 b1
    replace T0 := T0.step hB
    clear hB
    cases hbx : boxOk p q u v
    · have HO : Hid (winOk n x p q u v = false) := by show _ = _; unfold winOk; rw [hbx, Bool.and_false]
      have HB := T0.below
      clear T0 hsg hbx
      go_wp2
      go_ret2
      exact ⟨_, by rw [HO.out]; rfl, by unfold winR; rw [HO.out]; exact .inl ⟨rfl, rfl⟩, HB⟩
    · have HO : Hid (winOk n x p q u v = true) := by show _ = _; unfold winOk; rw [hbx, decide_eq_true hsg]; rfl
      obtain ⟨h40, hall⟩ := sgI_zero hsg
      have HA : Hid (∀ i, i < n → segOk (x (i * 4)) (x (i * 4 + 1)) (x (i * 4 + 2)) (x (i * 4 + 3)) = true) := hall
      have HX : Hid (boxOk p q u v = true) := hbx
      have hnI : (n : Int) ≤ 40 := by omega
      obtain ⟨i0, hi, hz0, hz1, hz2⟩ := info_parts Try.infoNo
      clear hall hbx hsg
      have HW2 := T0.below
      go_wp2_with fail
      go_loopw [8, 9] (fun o i wr => ∃ c : Nat, c ≤ n ∧ i = .int .i64 c ∧ wr.ownsRow (w.heap.size + 2) 2 1 o (winL x p q u v c).length ((winL x p q u v c).map (Value.int .i64)) ∧ ArgsB w wr [[.int .i64 p, .int .i64 q], [.int .i64 u, .int .i64 v]]) (fun _ i _ => n - (intOf i).toNat)
      case atStart => exact ⟨0, by omega, rfl, World.ownsRow_made w2 #[] 0 (T0.b 1 rfl).lt (by decide) rfl, T0.alloc _⟩
      case round =>
        clear T0 HW2
        obtain ⟨c, hc, rfl, hown, T0⟩ := hrel
        have HBw := T0.below
        have hlen := winL_len x p q u v c
        by_cases hcn : c < n
        · obtain ⟨A, off, rfl, hA, hcell⟩ := HS.out c hcn
          have e0 : ∀ o, wr.cell? ⟨A, o, none⟩ = w.cell? ⟨A, o, none⟩ := fun o => HBw.cell (p := ⟨A, o, none⟩) hA
          have q0 := (e0 _).trans (hcell 0 (by omega)); have q1 := (e0 _).trans (hcell 1 (by omega)); have q2 := (e0 _).trans (hcell 2 (by omega)); have q3 := (e0 _).trans (hcell 3 (by omega))
          simp only [Nat.add_zero] at q0
          have hcI : (c : Int) < n := by omega
          have hA' : A < wr.heap.size := Nat.lt_of_lt_of_le hA HBw.size
          obtain ⟨sp1, sp2⟩ := spots_of_seg (HA.out c hcn)
          have hbo := HX.out
          unfold boxOk at hbo
          simp only [Bool.and_eq_true] at hbo
          have MB := l4MeetsBox_any (x (c * 4)) (x (c * 4 + 1)) (x (c * 4 + 2)) (x (c * 4 + 3)) p q u v (in6_of_spot sp1).1 (in6_of_spot sp1).2 (in6_of_spot sp2).1 (in6_of_spot sp2).2 (in6_of_spot hbo.1.1.1).1 (in6_of_spot hbo.1.1.1).2 (in6_of_spot hbo.1.1.2).1 (in6_of_spot hbo.1.1.2).2
          have hh : hitAt x p q u v c = hitB (x (c * 4)) (x (c * 4 + 1)) (x (c * 4 + 2)) (x (c * 4 + 3)) p q u v := rfl
          change ∀ w, Calls _ _ _ w (BoolP (hitB (x (c * 4)) (x (c * 4 + 1)) (x (c * 4 + 2)) (x (c * 4 + 3)) p q u v) w) at MB
          rw [← hh] at MB
          clear hcell e0 sp1 sp2 hbo hh
          have X0 : Blk _ w.heap.size _ := T0.b 0 rfl; have X1 : Blk _ (w.heap.size + 1) _ := T0.b 1 rfl; have a0 := X0.c 0 rfl; have a1 := X0.c 1 rfl; have b0 := X1.c 0 rfl; have b1 := X1.c 1 rfl
          have KS : (fun w' => w'.cell? ⟨A, off + c * 4, none⟩ = some (.int .i64 (x (c * 4))) ∧ w'.cell? ⟨A, off + c * 4 + 1, none⟩ = some (.int .i64 (x (c * 4 + 1))) ∧ w'.cell? ⟨A, off + c * 4 + 2, none⟩ = some (.int .i64 (x (c * 4 + 2))) ∧ w'.cell? ⟨A, off + c * 4 + 3, none⟩ = some (.int .i64 (x (c * 4 + 3))) ∧ w'.cell? ⟨w.heap.size, 0, none⟩ = some (.int .i64 p) ∧ w'.cell? ⟨w.heap.size, 1, none⟩ = some (.int .i64 q) ∧ w'.cell? ⟨w.heap.size + 1, 0, none⟩ = some (.int .i64 u) ∧ w'.cell? ⟨w.heap.size + 1, 1, none⟩ = some (.int .i64 v)) wr := ⟨q0, q1, q2, q3, a0, a1, b0, b1⟩
          have HK : ∀ w', Below wr.heap.size wr w' → (fun w' => w'.cell? ⟨A, off + c * 4, none⟩ = some (.int .i64 (x (c * 4))) ∧ w'.cell? ⟨A, off + c * 4 + 1, none⟩ = some (.int .i64 (x (c * 4 + 1))) ∧ w'.cell? ⟨A, off + c * 4 + 2, none⟩ = some (.int .i64 (x (c * 4 + 2))) ∧ w'.cell? ⟨A, off + c * 4 + 3, none⟩ = some (.int .i64 (x (c * 4 + 3))) ∧ w'.cell? ⟨w.heap.size, 0, none⟩ = some (.int .i64 p) ∧ w'.cell? ⟨w.heap.size, 1, none⟩ = some (.int .i64 q) ∧ w'.cell? ⟨w.heap.size + 1, 0, none⟩ = some (.int .i64 u) ∧ w'.cell? ⟨w.heap.size + 1, 1, none⟩ = some (.int .i64 v)) w' := fun w' hB => ⟨(hB.cell (p := ⟨A, _, none⟩) hA').trans q0, (hB.cell (p := ⟨A, _, none⟩) hA').trans q1, (hB.cell (p := ⟨A, _, none⟩) hA').trans q2, (hB.cell (p := ⟨A, _, none⟩) hA').trans q3, (X0.step hB).c 0 rfl, (X0.step hB).c 1 rfl, (X1.step hB).c 0 rfl, (X1.step hB).c 1 rfl⟩
          clear X0 X1 a0 a1 b0 b1
          clear hA hA'
          have HTT : Hid (ArgsB w wr [[.int .i64 p, .int .i64 q], [.int .i64 u, .int .i64 v]]) := T0
          have HOW : wr.ownsRow (w.heap.size + 2) 2 1 u8 (winL x p q u v c).length ((winL x p q u v c).map (Value.int .i64)) := hown
          clear T0 hown HBw
          have H0 : Below wr.heap.size wr wr := Below.refl _ _
          go_upto_region 7 with fail
          go_region_held3 (fun w' => w'.cell? ⟨A, off + c * 4, none⟩ = some (.int .i64 (x (c * 4))) ∧ w'.cell? ⟨A, off + c * 4 + 1, none⟩ = some (.int .i64 (x (c * 4 + 1))) ∧ w'.cell? ⟨A, off + c * 4 + 2, none⟩ = some (.int .i64 (x (c * 4 + 2))) ∧ w'.cell? ⟨A, off + c * 4 + 3, none⟩ = some (.int .i64 (x (c * 4 + 3))) ∧ w'.cell? ⟨w.heap.size, 0, none⟩ = some (.int .i64 p) ∧ w'.cell? ⟨w.heap.size, 1, none⟩ = some (.int .i64 q) ∧ w'.cell? ⟨w.heap.size + 1, 0, none⟩ = some (.int .i64 u) ∧ w'.cell? ⟨w.heap.size + 1, 1, none⟩ = some (.int .i64 v)) (first | (exact KS) | (exact HK _ hB1))
            (first
              | (go_at_call 69; refine (MB _).mono ?_; rintro e w3 ⟨rfl, hB⟩; have hB1 : Below wr.heap.size wr w3 := H0.drew.trans (hB.mono H0.drew.size); clear hB))
          all_goals have TN : ArgsB w w3 [[.int .i64 p, .int .i64 q], [.int .i64 u, .int .i64 v]] := HTT.out.step hB1
          all_goals have hs3 := hB1.size
          all_goals have hsw : w.heap.size + 2 ≤ wr.heap.size := (HTT.out.b 1 rfl).lt
          all_goals have HO3 : w3.ownsRow (w.heap.size + 2) 2 1 u8 (winL x p q u v c).length ((winL x p q u v c).map (Value.int .i64)) := own_step HOW hB1
          all_goals clear KS HK MB HTT H0 hB1 HOW q0 q1 q2 q3
          all_goals cases hk : hitAt x p q u v c
          · have HL : Hid (winL x p q u v (c + 1) = winL x p q u v c) := winL_miss hk
            clear hk
            go_wp2
            go_roundw
            case rel => exact ⟨c + 1, by omega, by go_num, by rw [HL.out]; exact HO3, TN⟩
            case measure => simp [intOf]; omega
          · have HL : Hid (winL x p q u v (c + 1) = winL x p q u v c ++ [(c : Int)]) := winL_hit hk
            clear hk
            go_wp2_with (at_builtin; refine wpList_append_own _ rfl _ _ 56 rfl (w.heap.size + 2) 2 i0 (.int .i64 0) 1 8 Try.underlying56 hi hz0 hz1 hz2 rfl (by decide) _ _ _ rfl (HO3.alloc _) ⟨w3.heap.size, 0, none⟩ 1 1 [.int .i64 (c : Int)] rfl rfl (cell_one_new _ _ _) (one_cell _ _) (by unfold maxLen; omega) (by omega) (by simp; omega) ?_)
            intro v' w4 hown2 hgrow2 hnn
            have R1 : w4.ownsRow (w.heap.size + 2) 2 1 v' (winL x p q u v (c + 1)).length ((winL x p q u v (c + 1)).map (Value.int .i64)) := by
              rw [HL.out, List.map_append, List.length_append]
              simpa using hown2
            have T4 := argsB_grown (TN.alloc _) (by simp; omega) hgrow2 (fun j hj => (HO3.lt j hj).1)
            clear hown2 hgrow2 hnn HO3 TN
            go_wp2
            go_roundw
            case rel => exact ⟨c + 1, by omega, by go_num, R1, T4⟩
            case measure => simp [intOf]; omega
        · obtain rfl : c = n := by omega
          have HR : winR c x p q u v = winL x p q u v c := by unfold winR; rw [HO.out]; rfl
          have HN := (NoOwn.of hown).mono (b := w.heap.size) (by omega)
          rw [← HR] at HN
          have HNH : Hid (NoOwn wr w.heap.size u8 (winR c x p q u v)) := HN
          clear HR HN hown T0
          go_wp2
          go_ret2
          exact ⟨_, by rw [HO.out]; rfl, HNH.out, HBw⟩
  · have HO : Hid (winOk n x p q u v = false) := by show _ = _; unfold winOk; rw [decide_eq_false hsg]; rfl
    rw [decide_eq_false hsg]
    have HB := T0.below
    clear T0 hsg
    go_wp2
    go_ret2
    exact ⟨_, by rw [HO.out]; rfl, by unfold winR; rw [HO.out]; exact .inl ⟨rfl, rfl⟩, HB⟩
set_option maxRecDepth 100000 in
set_option maxHeartbeats 4000000 in
theorem implWindow_any (ao : Option Addr) (n cap : Nat) (x : Nat → Int) (p q u v : Int) (w : World) (hS : SegIn w ao n x) : Calls Try.prog 33 #[.slice ao n cap, Sp p q, Sp u v] w (WinP (winOk n x p q u v) (winR n x p q u v) w) := by
  have T0 := win_start p q u v w 51
  have HS : Hid (SegIn w ao n x) := hS
  clear hS
  go_enter Try.func33, Try.ntmps33
  go_wp2_with fail
  generalize ((w.alloc (.cells #[.int .i64 p, .int .i64 q] 51)).alloc (.cells #[.int .i64 u, .int .i64 v] 51)) = W at *
  refine (implSegsFault_any ao n cap x _ (HS.out.step T0.below)).mono ?_
  rintro e w1 ⟨rfl, hB⟩
  replace T0 := T0.step hB
  clear hB
  by_cases hsg : sgI n x = 0
  · rw [hsg]
    have X0 : Blk _ w.heap.size _ := T0.b 0 rfl; have X1 : Blk _ (w.heap.size + 1) _ := T0.b 1 rfl; have a0 := X0.c 0 rfl; have a1 := X0.c 1 rfl; have b0 := X1.c 0 rfl; have b1 := X1.c 1 rfl
    go_wp2_with fail
    refine (isBox_any p q u v _).mono ?_
    rintro e w2 ⟨rfl, hB⟩
    clear X0 X1 a0 a1 b0 b1
    replace T0 := T0.step hB
    clear hB
    cases hbx : boxOk p q u v
    · have HO : Hid (winOk n x p q u v = false) := by show _ = _; unfold winOk; rw [hbx, Bool.and_false]
      have HB := T0.below
      clear T0 hsg hbx
      go_wp2
      go_ret2
      exact ⟨_, by rw [HO.out]; rfl, by unfold winR; rw [HO.out]; exact .inl ⟨rfl, rfl⟩, HB⟩
    · have HO : Hid (winOk n x p q u v = true) := by show _ = _; unfold winOk; rw [hbx, decide_eq_true hsg]; rfl
      obtain ⟨h40, hall⟩ := sgI_zero hsg
      have HA : Hid (∀ i, i < n → segOk (x (i * 4)) (x (i * 4 + 1)) (x (i * 4 + 2)) (x (i * 4 + 3)) = true) := hall
      have HX : Hid (boxOk p q u v = true) := hbx
      have hnI : (n : Int) ≤ 40 := by omega
      obtain ⟨i0, hi, hz0, hz1, hz2⟩ := info_parts Try.infoNo
      clear hall hbx hsg
      go_wp2_with fail
      go_loopw [8, 22] (fun o i wr => ∃ c : Nat, c ≤ n ∧ i = .int .i64 c ∧ wr.ownsRow (w.heap.size + 2) 2 1 o (winL x p q u v c).length ((winL x p q u v c).map (Value.int .i64)) ∧ ArgsB w wr [[.int .i64 p, .int .i64 q], [.int .i64 u, .int .i64 v]]) (fun _ i _ => n - (intOf i).toNat)
      case atStart => exact ⟨0, by omega, rfl, World.ownsRow_nil _ _ _ _, T0⟩
      case round =>
        clear T0
        obtain ⟨c, hc, rfl, hown, T0⟩ := hrel
        have HBw := T0.below
        have hlen := winL_len x p q u v c
        by_cases hcn : c < n
        · obtain ⟨A, off, rfl, hA, hcell⟩ := HS.out c hcn
          have e0 : ∀ o, wr.cell? ⟨A, o, none⟩ = w.cell? ⟨A, o, none⟩ := fun o => HBw.cell (p := ⟨A, o, none⟩) hA
          have q0 := (e0 _).trans (hcell 0 (by omega)); have q1 := (e0 _).trans (hcell 1 (by omega)); have q2 := (e0 _).trans (hcell 2 (by omega)); have q3 := (e0 _).trans (hcell 3 (by omega))
          simp only [Nat.add_zero] at q0
          have hcI : (c : Int) < n := by omega
          obtain ⟨sp1, sp2⟩ := spots_of_seg (HA.out c hcn)
          have hbo := HX.out
          unfold boxOk at hbo
          simp only [Bool.and_eq_true] at hbo
          have MB := meetsBox_any (x (c * 4)) (x (c * 4 + 1)) (x (c * 4 + 2)) (x (c * 4 + 3)) p q u v (in6_of_spot sp1).1 (in6_of_spot sp1).2 (in6_of_spot sp2).1 (in6_of_spot sp2).2 (in6_of_spot hbo.1.1.1).1 (in6_of_spot hbo.1.1.1).2 (in6_of_spot hbo.1.1.2).1 (in6_of_spot hbo.1.1.2).2
          have hh : hitAt x p q u v c = hitB (x (c * 4)) (x (c * 4 + 1)) (x (c * 4 + 2)) (x (c * 4 + 3)) p q u v := rfl
          change ∀ w, Calls _ _ _ w (BoolP (hitB (x (c * 4)) (x (c * 4 + 1)) (x (c * 4 + 2)) (x (c * 4 + 3)) p q u v) w) at MB
          rw [← hh] at MB
          clear hcell e0 sp1 sp2 hbo hh
          have X0 : Blk _ w.heap.size _ := T0.b 0 rfl; have X1 : Blk _ (w.heap.size + 1) _ := T0.b 1 rfl; have a0 := X0.c 0 rfl; have a1 := X0.c 1 rfl; have b0 := X1.c 0 rfl; have b1 := X1.c 1 rfl
          have HTT : Hid (ArgsB w wr [[.int .i64 p, .int .i64 q], [.int .i64 u, .int .i64 v]]) := T0
          have HOW : wr.ownsRow (w.heap.size + 2) 2 1 u8 (winL x p q u v c).length ((winL x p q u v c).map (Value.int .i64)) := hown
          have hl0 : w.heap.size < wr.heap.size := X0.lt
          have hl1 : w.heap.size + 1 < wr.heap.size := X1.lt
          clear T0 hown
          go_wp2_with fail
          refine (MB _).mono ?_
          rintro e w3 ⟨rfl, hB⟩
          have hB1 : Below wr.heap.size wr w3 := ((Below.refl _ wr).alloc (Nat.le_refl _) _).trans (hB.mono (by simp))
          clear hB X0 X1 a0 a1 b0 b1 q0 q1 q2 q3 hA HBw hl0 hl1
          have TN : ArgsB w w3 [[.int .i64 p, .int .i64 q], [.int .i64 u, .int .i64 v]] := HTT.out.step hB1
          have hs3 := hB1.size
          have hsw : w.heap.size + 2 ≤ wr.heap.size := (HTT.out.b 1 rfl).lt
          have HO3 : w3.ownsRow (w.heap.size + 2) 2 1 u8 (winL x p q u v c).length ((winL x p q u v c).map (Value.int .i64)) := own_step HOW hB1
          clear MB HTT hB1 HOW
          cases hk : hitAt x p q u v c
          · have HL : Hid (winL x p q u v (c + 1) = winL x p q u v c) := winL_miss hk
            clear hk
            go_wp2
            go_roundw
            case rel => exact ⟨c + 1, by omega, by go_num, by rw [HL.out]; exact HO3, TN⟩
            case measure => simp [intOf]; omega
          · have HL : Hid (winL x p q u v (c + 1) = winL x p q u v c ++ [(c : Int)]) := winL_hit hk
            clear hk
            go_wp2_with (at_builtin; refine wpList_append_own _ rfl _ _ 56 rfl (w.heap.size + 2) 2 i0 (.int .i64 0) 1 8 Try.underlying56 hi hz0 hz1 hz2 rfl (by decide) _ _ _ rfl (HO3.alloc _) ⟨w3.heap.size, 0, none⟩ 1 1 [.int .i64 (c : Int)] rfl rfl (cell_one_new _ _ _) (one_cell _ _) (by unfold maxLen; omega) (by omega) (by simp; omega) ?_)
            intro v' w4 hown2 hgrow2 hnn
            have R1 : w4.ownsRow (w.heap.size + 2) 2 1 v' (winL x p q u v (c + 1)).length ((winL x p q u v (c + 1)).map (Value.int .i64)) := by
              rw [HL.out, List.map_append, List.length_append]
              simpa using hown2
            have T4 := argsB_grown (TN.alloc _) (by simp; omega) hgrow2 (fun j hj => (HO3.lt j hj).1)
            clear hown2 hgrow2 hnn HO3 TN
            go_wp2
            go_roundw
            case rel => exact ⟨c + 1, by omega, by go_num, R1, T4⟩
            case measure => simp [intOf]; omega
        · obtain rfl : c = n := by omega
          have HR : winR c x p q u v = winL x p q u v c := by unfold winR; rw [HO.out]; rfl
          have HN := (NoOwn.of hown).mono (b := w.heap.size) (by omega)
          rw [← HR] at HN
          have HNH : Hid (NoOwn wr w.heap.size u8 (winR c x p q u v)) := HN
          clear HR HN hown T0
          go_wp2
          go_ret2
          exact ⟨_, by rw [HO.out]; rfl, HNH.out, HBw⟩
  · have HO : Hid (winOk n x p q u v = false) := by show _ = _; unfold winOk; rw [decide_eq_false hsg]; rfl
    have hne : (sgI n x != 0) = true := by simp; omega
    have HB := T0.below
    revert hne
    generalize sgI n x = o
    intro hne
    clear T0 hsg
    go_wp2
    go_ret2
    exact ⟨_, by rw [HO.out]; rfl, by unfold winR; rw [HO.out]; exact .inl ⟨rfl, rfl⟩, HB⟩
end Go.Proofs.Ytlfogfjehdgjmaa

/- Segments that meet a box: the law. -/
namespace Go.Proofs.Ytlfogfjehdgjmaa
open Go.RowKit
set_option maxRecDepth 100000 in
set_option maxHeartbeats 2000000 in
theorem toSegS2_any (ao : Option Addr) (n cap : Nat) (x : Nat → Int) (hn : n ≤ 1048576) (w : World) (hS : SegIn w ao n x) : Calls Try.prog 27 #[.slice ao n cap] w (fun e w' => ∃ g, e = .returned (.slice (some ⟨g, 0, none⟩) n n) ∧ w.heap.size ≤ g ∧ w'.rowIs g 95 (n * 4) (fun i => .int .i64 (x i)) ∧ Below w.heap.size w w') := by
  have MK := make_segs n hn
  have HS : Hid (SegIn w ao n x) := hS
  clear hS
  go_enter Try.func27, Try.ntmps27
  go_wp2_with fail
  have R0 := row_made w n 95
  have B0 : Below w.heap.size w (w.alloc (.cells (madeCells #[.int .i64 0, .int .i64 0, .int .i64 0, .int .i64 0] (n * 4)) 95)) := (Below.refl _ _).alloc (Nat.le_refl _) _
  generalize w.alloc (.cells (madeCells #[.int .i64 0, .int .i64 0, .int .i64 0, .int .i64 0] (n * 4)) 95) = W1 at *
  have hnI : (n : Int) ≤ 1048576 := by omega
  clear MK
  go_loopw [4] (fun i wr => ∃ c : Nat, c ≤ n ∧ i = .int .i64 c ∧ wr.rowIs w.heap.size 95 (n * 4) (cpF x c) ∧ Below w.heap.size w wr) (fun i _ => n - (intOf i).toNat)
  case atStart => exact ⟨0, by omega, rfl, R0.congr (fun i _ => by unfold cpF; simp), B0⟩
  case round =>
    clear R0 B0
    obtain ⟨c, hc, rfl, R, HB⟩ := hrel
    by_cases hcn : c < n
    · obtain ⟨A, off, rfl, hA, hcell⟩ := HS.out c hcn
      have e0 : ∀ o, wr.cell? ⟨A, o, none⟩ = w.cell? ⟨A, o, none⟩ := fun o => HB.cell (p := ⟨A, o, none⟩) hA
      have q0 := (e0 _).trans (hcell 0 (by omega)); have q1 := (e0 _).trans (hcell 1 (by omega)); have q2 := (e0 _).trans (hcell 2 (by omega)); have q3 := (e0 _).trans (hcell 3 (by omega))
      simp only [Nat.add_zero] at q0
      have hcI : (c : Int) < n := by omega
      clear hcell e0
      go_wp2_with fail
      refine (toSeg_any (x (c * 4)) (x (c * 4 + 1)) (x (c * 4 + 2)) (x (c * 4 + 3)) _).mono ?_
      rintro e w1 ⟨rfl, hB⟩
      replace R := row_step R hB
      replace HB := HB.trans (hB.mono HB.size)
      have o0 := R.cell (i := c * 4) (by omega); have o1 := R.cell (i := c * 4 + 1) (by omega); have o2 := R.cell (i := c * 4 + 2) (by omega); have o3 := R.cell (i := c * 4 + 3) (by omega)
      have f0 := R.frozen (c * 4); have f1 := R.frozen (c * 4 + 1); have f2 := R.frozen (c * 4 + 2); have f3 := R.frozen (c * 4 + 3)
      have RN := cp_step R hcn
      have HN : Below w.heap.size w ((((w1.setCell ⟨w.heap.size, c * 4, none⟩ (.int .i64 (x (c * 4)))).setCell ⟨w.heap.size, c * 4 + 1, none⟩ (.int .i64 (x (c * 4 + 1)))).setCell ⟨w.heap.size, c * 4 + 2, none⟩ (.int .i64 (x (c * 4 + 2)))).setCell ⟨w.heap.size, c * 4 + 3, none⟩ (.int .i64 (x (c * 4 + 3)))) := (((HB.setCell (by simp) _).setCell (by simp) _).setCell (by simp) _).setCell (by simp) _
      clear hB q0 q1 q2 q3 hA R HB
      go_wp2
      go_roundw
      case rel => exact ⟨c + 1, by omega, by go_num, RN, HN⟩
      case measure => simp [intOf]; omega
    · obtain rfl : c = n := by omega
      have RN : wr.rowIs w.heap.size 95 (c * 4) (fun i => .int .i64 (x i)) := R.congr (fun i hi => by unfold cpF; rw [if_pos hi])
      clear R HS
      go_wp2
      go_ret
      exact ⟨_, rfl, Nat.le_refl _, RN, HB⟩
theorem NoOwn.lt {w : World} {base : Nat} {v : Value} {L : List Int} (h : NoOwn w base v L) {g : Nat} (hg : v.ownBlock = some g) : base ≤ g ∧ g < w.heap.size := by
  rcases h with ⟨h1, _⟩ | ⟨g', cap, f, h1, h2, h3, h4, h5⟩
  · subst h1; cases hg
  · subst h1; cases hg; exact ⟨h2, h4.lt⟩
theorem argsB_other {w W W' : World} {vss : List (List Value)} {h : Option Nat} (A : ArgsB w W vss) (k : OtherB h W W') (hr : ∀ g, h = some g → w.heap.size + vss.length ≤ g) : ArgsB w W' vss := by
  refine ⟨k.2.2 w (fun g hg => by have := hr g hg; omega) A.1, fun j vs hj => k.blk (fun e => ?_) (A.2 j vs hj)⟩
  have := (List.getElem?_eq_some_iff.1 hj).1
  have := hr _ e.symm
  omega
theorem wc_cells {p q u v : Int} {w W : World} (h : ArgsB w W [[.int .i64 p, .int .i64 q], [.int .i64 u, .int .i64 v]]) : (fun w' => w'.cell? ⟨w.heap.size, 0, none⟩ = some (.int .i64 p) ∧ w'.cell? ⟨w.heap.size, 1, none⟩ = some (.int .i64 q) ∧ w'.cell? ⟨w.heap.size + 1, 0, none⟩ = some (.int .i64 u) ∧ w'.cell? ⟨w.heap.size + 1, 1, none⟩ = some (.int .i64 v)) W := ⟨(h.b 0 rfl).c 0 rfl, (h.b 0 rfl).c 1 rfl, (h.b 1 rfl).c 0 rfl, (h.b 1 rfl).c 1 rfl⟩
theorem eqNo_own {v v' : Value} {L : List Int} {b b' : Nat} (hn : L.length ≤ 1048576) (w : World) (h : NoOwn w b v L) (h' : NoOwn w b' v' L) : Calls Try.prog 34 #[v, v'] w (BoolP true w) := by
  obtain ⟨ao, cap, rfl, hI⟩ := h.in
  obtain ⟨bo, cap', rfl, hI'⟩ := h'.in
  exact eqNoS_any ao bo L.length cap cap' _ hn w hI hI'
theorem winR_len (n : Nat) (x : Nat → Int) (p q u v : Int) : (winR n x p q u v).length ≤ 1048576 := by
  unfold winR
  split
  · rename_i h
    have h2 : sgI n x = 0 := by
      unfold winOk at h
      rw [Bool.and_eq_true] at h
      exact of_decide_eq_true h.1
    have := (sgI_zero h2).1
    have := winL_len x p q u v n
    omega
  · simp
set_option maxRecDepth 100000 in
set_option maxHeartbeats 8000000 in
theorem lawWindow_any (ao : Option Addr) (n cap : Nat) (x : Nat → Int) (p q u v : Int) (hn : n ≤ 9223372036854775807) (w : World) (hS : n ≤ 1048576 → SegIn w ao n x) : Calls Try.prog 10 #[.slice ao n cap, Sp p q, Sp u v] w (BoolP true w) := by
  have SZ := szSegS_any ao n cap hn
  have T0 := win_start p q u v w 45
  go_enter Try.func10, Try.ntmps10
  by_cases hs : n ≤ 1048576
  · rw [if_pos hs] at SZ
    have HS : Hid (SegIn w ao n x) := hS hs
    have hsI : (n : Int) ≤ 1048576 := by omega
    have TS := fun w => toSegS2_any ao n cap x hs w
    have SP1 := toSpot_any p q
    have SP2 := toSpot_any u v
    have HL : Hid ((winR n x p q u v).length ≤ 1048576) := winR_len n x p q u v
    have SW := fun ao' w h => specWindow_any ao' n n x p q u v w h
    have IW := fun ao' w h => implWindow_any ao' n n x p q u v w h
    revert SW IW HL
    generalize winR n x p q u v = L
    generalize winOk n x p q u v = ok
    intro HL SW IW
    clear hS
    go_wp2_with fail
    generalize ((w.alloc (.cells #[.int .i64 p, .int .i64 q] 45)).alloc (.cells #[.int .i64 u, .int .i64 v] 45)) = W at *
    refine (SZ _).mono ?_
    rintro e w1 ⟨rfl, hB⟩
    replace T0 := T0.step hB
    clear hB SZ
    have tk1 : True := trivial
    have CH : Below w1.heap.size w1 w1 := Below.refl _ _
    go_upto_region 5 with fail
    go_region_held3 (fun w' => w'.cell? ⟨w.heap.size, 0, none⟩ = some (.int .i64 p) ∧ w'.cell? ⟨w.heap.size, 1, none⟩ = some (.int .i64 q) ∧ w'.cell? ⟨w.heap.size + 1, 0, none⟩ = some (.int .i64 u) ∧ w'.cell? ⟨w.heap.size + 1, 1, none⟩ = some (.int .i64 v)) (first | (with_reducible exact wc_cells T0) | (with_reducible exact wc_cells T0.drew))
      (first
        | (go_at_call 27; refine (TS _ (by first | (with_reducible exact HS.out.step T0.below) | (with_reducible exact HS.out.step T0.drew.below))).mono ?_; rintro e wa ⟨ga, rfl, la, Ra, hB⟩; (first | (have T1 := T0.step hB) | (have T1 := T0.drew.step hB)); clear T0; have T0 := T1; clear T1; (first | (have CH1 := CH.trans (hB.mono CH.size)) | (have CH1 := CH.drew.trans (hB.mono CH.drew.size))); clear CH; have CH := CH1; clear CH1; clear hB)
        | (go_at_call 28; have _t := tk1; refine (SP1 _).mono ?_; rintro e wb ⟨rfl, hB⟩; (have Ra2 := row_step Ra hB; clear Ra; have Ra := Ra2; clear Ra2); (first | (have T1 := T0.step hB) | (have T1 := T0.drew.step hB)); clear T0; have T0 := T1; clear T1; (first | (have CH1 := CH.trans (hB.mono CH.size)) | (have CH1 := CH.drew.trans (hB.mono CH.drew.size))); clear CH; have CH := CH1; clear CH1; clear hB tk1 _t)
        | (go_at_call 28; refine (SP2 _).mono ?_; rintro e wc ⟨rfl, hB⟩; (have Ra2 := row_step Ra hB; clear Ra; have Ra := Ra2; clear Ra2); (first | (have T1 := T0.step hB) | (have T1 := T0.drew.step hB)); clear T0; have T0 := T1; clear T1; (first | (have CH1 := CH.trans (hB.mono CH.size)) | (have CH1 := CH.drew.trans (hB.mono CH.drew.size))); clear CH; have CH := CH1; clear CH1; clear hB)
        | (go_at_call 32; refine (SW _ _ (segIn_row Ra)).mono ?_; rintro e wD ⟨v1, rfl, Na0, hB⟩; (have Ra2 := row_step Ra hB; clear Ra; have Ra := Ra2; clear Ra2); (first | (have Na := Na0.mono (b := w1.heap.size) CH.size) | (have Na := Na0.mono (b := w1.heap.size) CH.drew.size)); clear Na0; (first | (have T1 := T0.step hB) | (have T1 := T0.drew.step hB)); clear T0; have T0 := T1; clear T1; (first | (have CH1 := CH.trans (hB.mono CH.size)) | (have CH1 := CH.drew.trans (hB.mono CH.drew.size))); clear CH; have CH := CH1; clear CH1; clear hB))
    have N1 : NoOwn wD 0 v1 L := Na.mono (Nat.zero_le _)
    have o1 : Hid (∀ g, v1.ownBlock = some g → g < wD.heap.size) := fun g hg => (Na.lt hg).2
    have hw : w.heap.size + 2 ≤ wD.heap.size := (T0.b 1 rfl).lt
    clear Na Ra la CH SW
    go_wp2_with fail
    refine (TS _ (HS.out.step T0.below)).mono ?_
    rintro e w2 ⟨g2, rfl, l2, R2, hB⟩
    have d2 := hB.size
    replace T0 := T0.step hB
    replace N1 := N1.step hB
    clear hB
    have z2 := R2.lt
    have Ra := R2
    have tk1 : True := trivial
    have CH : Below w2.heap.size w2 w2 := Below.refl _ _
    go_upto_region 7 with fail
    go_region_held3 (fun w' => w'.cell? ⟨w.heap.size, 0, none⟩ = some (.int .i64 p) ∧ w'.cell? ⟨w.heap.size, 1, none⟩ = some (.int .i64 q) ∧ w'.cell? ⟨w.heap.size + 1, 0, none⟩ = some (.int .i64 u) ∧ w'.cell? ⟨w.heap.size + 1, 1, none⟩ = some (.int .i64 v)) (first | (with_reducible exact wc_cells T0) | (with_reducible exact wc_cells T0.drew))
      (first
        | (go_at_call 28; have _t := tk1; refine (SP1 _).mono ?_; rintro e wb ⟨rfl, hB⟩; (first | (have Ra2 := row_step Ra hB; clear Ra; have Ra := Ra2; clear Ra2) | (have Ra2 := row_step Ra.drew hB; clear Ra; have Ra := Ra2; clear Ra2)); (first | (have T1 := T0.step hB) | (have T1 := T0.drew.step hB)); clear T0; have T0 := T1; clear T1; (first | (have CH1 := CH.trans (hB.mono CH.size)) | (have CH1 := CH.drew.trans (hB.mono CH.drew.size))); clear CH; have CH := CH1; clear CH1; clear hB tk1 _t)
        | (go_at_call 28; refine (SP2 _).mono ?_; rintro e wc ⟨rfl, hB⟩; (first | (have Ra2 := row_step Ra hB; clear Ra; have Ra := Ra2; clear Ra2) | (have Ra2 := row_step Ra.drew hB; clear Ra; have Ra := Ra2; clear Ra2)); (first | (have T1 := T0.step hB) | (have T1 := T0.drew.step hB)); clear T0; have T0 := T1; clear T1; (first | (have CH1 := CH.trans (hB.mono CH.size)) | (have CH1 := CH.drew.trans (hB.mono CH.drew.size))); clear CH; have CH := CH1; clear CH1; clear hB)
        | (go_at_call 33; refine (IW _ _ (segIn_row Ra)).mono ?_; rintro e w3 ⟨v2, rfl, Na0, hB⟩; (first | (have Ra2 := row_step Ra hB; clear Ra; have Ra := Ra2; clear Ra2) | (have Ra2 := row_step Ra.drew hB; clear Ra; have Ra := Ra2; clear Ra2)); (first | (have Na := Na0.mono (b := w2.heap.size) CH.size) | (have Na := Na0.mono (b := w2.heap.size) CH.drew.size)); clear Na0; (first | (have T1 := T0.step hB) | (have T1 := T0.drew.step hB)); clear T0; have T0 := T1; clear T1; (first | (have CH1 := CH.trans (hB.mono CH.size)) | (have CH1 := CH.drew.trans (hB.mono CH.drew.size))); clear CH; have CH := CH1; clear CH1; clear hB))
    replace N1 := N1.step CH
    clear R2
    have R2 := Ra
    have N2 := Na
    have d3 := CH.size
    clear Na Ra CH
    have hok : (ok != ok) = false := by simp
    go_wp2_with fail
    refine (eqNo_own HL.out _ N2 N1).mono ?_
    rintro e w4 ⟨rfl, hB⟩
    replace T0 := T0.step hB
    replace N1 := N1.step hB
    replace N2 := N2.step hB
    replace R2 := row_step R2 hB
    clear hB
    go_wp2_with fail
    refine (TS _ (HS.out.step T0.below)).mono ?_
    rintro e w5 ⟨g5, rfl, l5, R5, hB⟩
    replace T0 := T0.step hB
    replace N1 := N1.step hB
    replace N2 := N2.step hB
    replace R2 := row_step R2 hB
    clear hB
    go_wp2_with fail
    refine (eqSegS_any _ _ n n n x hs _ (segIn_row R2) (segIn_row R5)).mono ?_
    rintro e w6 ⟨rfl, hB⟩
    clear R5 l5
    replace T0 := T0.step hB
    replace N1 := N1.step hB
    replace N2 := N2.step hB
    replace R2 := row_step R2 hB
    clear hB
    go_wp2_with fail
    refine (markSegS_any g2 n _ hs _ R2 (fun i _ => ⟨_, rfl⟩)).mono ?_
    rintro e w7 ⟨rfl, KM⟩
    replace T0 := argsB_other T0 KM (fun g hg => by cases hg; simp; omega)
    replace N1 := KM.own N1 (fun g hg e => by have e2 := Option.some.inj e; have := o1.out g hg; omega)
    replace N2 := KM.own N2 (fun g hg e => by have e2 := Option.some.inj e; have := (N2.lt hg).1; omega)
    clear KM R2
    have hk1 : ¬ ((n : Int) * 4 + 1 < 0) := by omega
    go_wp2_with fail
    refine (eqNo_own HL.out _ N2 N1).mono ?_
    rintro e w8 ⟨rfl, hB⟩
    replace T0 := T0.step hB
    replace N1 := N1.step hB
    replace N2 := N2.step hB
    clear hB
    go_wp2_with fail
    have ob := fun g hg => (N2.lt (g := g) hg).1
    refine (markNoS_any v2 L _ HL.out _ N2).mono ?_
    rintro e w9 ⟨rfl, N2', KM⟩
    replace T0 := argsB_other T0 KM (fun g hg => by have := ob g hg; simp; omega)
    replace N1 := KM.own N1 (fun g hg e => by have := o1.out g hg; have := ob g e.symm; omega)
    clear KM N2 ob
    have N2 := N2'
    clear N2' o1 l2 hw d2 z2 d3
    have hk2 : ¬ ((L.length : Int) + 1 < 0) := by omega
    have hk3 : (((L.length : Int) + 1) != ((L.length : Int) + 1)) = false := by simp
    go_wp2_with fail
    refine (heldNoS_any v2 L.length _ HL.out _ N2).mono ?_
    rintro e w10 ⟨rfl, hB⟩
    replace T0 := T0.step hB
    replace N1 := N1.step hB
    replace N2 := N2.step hB
    clear hB
    have tk1 : True := trivial
    have CH : Below w10.heap.size w10 w10 := Below.refl _ _
    go_upto_region 24 with fail
    go_region_held3 (fun w' => w'.cell? ⟨w.heap.size, 0, none⟩ = some (.int .i64 p) ∧ w'.cell? ⟨w.heap.size, 1, none⟩ = some (.int .i64 q) ∧ w'.cell? ⟨w.heap.size + 1, 0, none⟩ = some (.int .i64 u) ∧ w'.cell? ⟨w.heap.size + 1, 1, none⟩ = some (.int .i64 v)) (first | (with_reducible exact wc_cells T0) | (with_reducible exact wc_cells T0.drew))
      (first
        | (go_at_call 27; refine (TS _ (by first | (with_reducible exact HS.out.step T0.below) | (with_reducible exact HS.out.step T0.drew.below))).mono ?_; rintro e wa ⟨ga, rfl, la, Ra, hB⟩; (first | (have T1 := T0.step hB) | (have T1 := T0.drew.step hB)); clear T0; have T0 := T1; clear T1; (first | (have CH1 := CH.trans (hB.mono CH.size)) | (have CH1 := CH.drew.trans (hB.mono CH.drew.size))); clear CH; have CH := CH1; clear CH1; clear hB)
        | (go_at_call 28; have _t := tk1; refine (SP1 _).mono ?_; rintro e wb ⟨rfl, hB⟩; (have Ra2 := row_step Ra hB; clear Ra; have Ra := Ra2; clear Ra2); (first | (have T1 := T0.step hB) | (have T1 := T0.drew.step hB)); clear T0; have T0 := T1; clear T1; (first | (have CH1 := CH.trans (hB.mono CH.size)) | (have CH1 := CH.drew.trans (hB.mono CH.drew.size))); clear CH; have CH := CH1; clear CH1; clear hB tk1 _t)
        | (go_at_call 28; refine (SP2 _).mono ?_; rintro e wc ⟨rfl, hB⟩; (have Ra2 := row_step Ra hB; clear Ra; have Ra := Ra2; clear Ra2); (first | (have T1 := T0.step hB) | (have T1 := T0.drew.step hB)); clear T0; have T0 := T1; clear T1; (first | (have CH1 := CH.trans (hB.mono CH.size)) | (have CH1 := CH.drew.trans (hB.mono CH.drew.size))); clear CH; have CH := CH1; clear CH1; clear hB)
        | (go_at_call 33; refine (IW _ _ (segIn_row Ra)).mono ?_; rintro e w11 ⟨v3, rfl, Na0, hB⟩; (have Ra2 := row_step Ra hB; clear Ra; have Ra := Ra2; clear Ra2); (first | (have Na := Na0.mono (b := w10.heap.size) CH.size) | (have Na := Na0.mono (b := w10.heap.size) CH.drew.size)); clear Na0; (first | (have T1 := T0.step hB) | (have T1 := T0.drew.step hB)); clear T0; have T0 := T1; clear T1; (first | (have CH1 := CH.trans (hB.mono CH.size)) | (have CH1 := CH.drew.trans (hB.mono CH.drew.size))); clear CH; have CH := CH1; clear CH1; clear hB))
    replace N1 := N1.step CH
    replace N2 := N2.step CH
    have N3 := Na
    clear Na Ra la CH
    clear IW TS
    go_wp2_with fail
    refine (eqNo_own HL.out _ N3 N1).mono ?_
    rintro e w12 ⟨rfl, hB⟩
    clear N3
    replace T0 := T0.step hB
    replace N1 := N1.step hB
    replace N2 := N2.step hB
    clear hB
    go_wp2_with fail
    refine (heldNoS_any v2 L.length _ HL.out _ N2).mono ?_
    rintro e w13 ⟨rfl, hB⟩
    replace T0 := T0.step hB
    clear hB
    have HB := T0.below
    clear N1 N2 T0
    go_wp2
    go_ret
    exact ⟨rfl, HB⟩
  · rw [if_neg hs] at SZ
    clear hS
    go_wp2_with fail
    generalize ((w.alloc (.cells #[.int .i64 p, .int .i64 q] 45)).alloc (.cells #[.int .i64 u, .int .i64 v] 45)) = W at *
    refine (SZ _).mono ?_
    rintro e w1 ⟨rfl, hB⟩
    have HB := (T0.step hB).below
    clear SZ T0 hB
    go_wp2
    go_ret
    exact ⟨rfl, HB⟩
end Go.Proofs.Ytlfogfjehdgjmaa

/- How spots and segments read as data, beside points: opened and shut. -/
namespace Go.Proofs.Ytlfogfjehdgjmaa
open Go.ChangeShapes Go.WideShapes Go.ChangeAt Go.RowKit Go.Joins
theorem Try.cellsSpot : Try.prog.cellsOf 45 = 2 := by kernel_rfl
theorem Try.cellsSeg : Try.prog.cellsOf 100 = 4 := by kernel_rfl
abbrev Wf (x : Int) : Prop := (Lit.int .i64 x).wf = true
abbrev SpD {H : Type} (x y : Int) : DataW H := .agg [.lit (.int .i64 x), .lit (.int .i64 y)]
set_option maxRecDepth 100000 in
theorem open_spot {H : Type} {enc : TypeId × Value → H} {w : World} {b0 : Nat} {v : Value} {d : DataW H} {p : List MemPlace} (hv : Value.okWide Try.prog w .any b0 45 v) (h : DataW.Trod enc Try.prog w 0 (fun _ => true) true 45 v d p) :
    ∃ x y : Int, v = .agg #[.int .i64 x, .int .i64 y] ∧ d = SpD x y ∧ p = [] ∧ Wf x ∧ Wf y := by
  obtain ⟨c0, c1, y0, y1, m, rfl, rfl, rfl, hy0, hy1⟩ := open_agg2 Try.underlying45 (by kernel_rfl) Try.cellsSpot hv h
  obtain ⟨a, e0, rfl, wa⟩ := DataW.trod_int Try.underlying2 hy0
  obtain ⟨b, e1, rfl, wb⟩ := DataW.trod_int Try.underlying2 hy1
  simp at e0 e1
  subst e0 e1
  exact ⟨a, b, rfl, rfl, rfl, wa, wb⟩
theorem shut_spot {H : Type} {enc : TypeId × Value → H} {w : World} {base : Nat} {spare : TypeId → Bool} {held : Bool} {x y : Int} (wx : Wf x) (wy : Wf y) :
    DataW.Trod enc Try.prog w base spare held 45 (.agg #[.int .i64 x, .int .i64 y]) (SpD x y) [] :=
  shut_agg2 (y0 := (.lit (.int .i64 x), [])) (y1 := (.lit (.int .i64 y), [])) Try.underlying45 (by kernel_rfl) Try.cellsSpot
    ⟨1, by simp [DataW.trod, Try.underlying2, wx]⟩ ⟨1, by simp [DataW.trod, Try.underlying2, wy]⟩
theorem trod_spot {H : Type} {enc : TypeId × Value → H} {w : World} {base : Nat} {spare : TypeId → Bool} {held : Bool} {n : Nat} {c0 c1 : Value} {y : DataW H × List MemPlace} (h : DataW.trod enc Try.prog w base spare held n 45 [c0, c1] = some y) :
    ∃ a b : Int, c0 = .int .i64 a ∧ c1 = .int .i64 b ∧ y = (SpD a b, []) ∧ Wf a ∧ Wf b := by
  obtain ⟨y0, y1, m, hx, _, h0, h1⟩ := trod_struct2 Try.underlying45 h
  obtain ⟨a, e0, rfl, wa⟩ := DataW.trod_int Try.underlying2 h0
  obtain ⟨b, e1, rfl, wb⟩ := DataW.trod_int Try.underlying2 h1
  have k : Try.prog.cellsOf 2 = 1 := by kernel_rfl
  simp [k] at e0 e1
  exact ⟨a, b, e0, e1, hx, wa, wb⟩
end Go.Proofs.Ytlfogfjehdgjmaa

/- How a row of segments reads as data. -/
namespace Go.Proofs.Ytlfogfjehdgjmaa
open Go.ChangeShapes Go.WideShapes Go.ChangeAt Go.RowKit Go.Joins
theorem Try.laidOut : laidOutB Try.prog = true := by kernel_rfl
/-- The numbers of a row of segments, one behind the other. -/
def flat4 (q : Nat → Int × Int × Int × Int) (k : Nat) : Int := if k % 4 = 0 then (q (k / 4)).1 else if k % 4 = 1 then (q (k / 4)).2.1 else if k % 4 = 2 then (q (k / 4)).2.2.1 else (q (k / 4)).2.2.2
theorem segs_of {H : Type} {enc : TypeId × Value → H} {W : World} {a : Addr} {len m n : Nat} {D : Nat → DataW H} {Pl : Nat → List MemPlace} (hl : len ≤ m)
    (hx : ∀ i, i < m → ∃ cs', W.cells? 0 (a.add (i * Try.prog.cellsOf 100)) (Try.prog.cellsOf 100) = some cs' ∧ DataW.trod enc Try.prog W 0 (fun _ => true) true n 100 cs' = some (D i, Pl i))
    (hlt : ∀ x ∈ MemPlace.row a (m * Try.prog.cellsOf 100), x.block < W.heap.size) : ∃ x : Nat → Int, SegIn W (some a) len x := by
  rw [Try.cellsSeg] at hx hlt
  have each : ∀ i, i < m → ∃ q : Int × Int × Int × Int, W.cell? (a.add (i * 4)) = some (.int .i64 q.1) ∧ W.cell? (a.add (i * 4 + 1)) = some (.int .i64 q.2.1) ∧ W.cell? (a.add (i * 4 + 2)) = some (.int .i64 q.2.2.1) ∧ W.cell? (a.add (i * 4 + 3)) = some (.int .i64 q.2.2.2) := by
    intro i hi
    obtain ⟨cs', h1, h2⟩ := hx i hi
    obtain ⟨_, hlen, hcell⟩ := World.cells?_some h1
    match cs', hlen with
    | [v0, v1, v2, v3], _ =>
      have e0 := hcell 0 (by omega); have e1 := hcell 1 (by omega); have e2 := hcell 2 (by omega); have e3 := hcell 3 (by omega)
      rw [Go.Deep.add_add] at e0 e1 e2 e3
      obtain ⟨y0, y1, k, hy, _, g0, g1⟩ := trod_struct2 Try.underlying100 h2
      simp [Try.cellsSpot] at g0 g1
      obtain ⟨p, q, rfl, rfl, -, -, -⟩ := trod_spot g0
      obtain ⟨r, s, rfl, rfl, -, -, -⟩ := trod_spot g1
      exact ⟨(p, q, r, s), by simpa using e0, by simpa using e1, by simpa using e2, by simpa using e3⟩
  obtain ⟨q, hq⟩ := Go.Deep.choose_lt each
  obtain ⟨ab, ao, spot⟩ := a
  refine ⟨flat4 q, fun i hi => ?_⟩
  have hspot : spot = none := by simpa [Addr.add] using World.cell?_spot (hq 0 (by omega)).1
  subst hspot
  obtain ⟨c0, c1, c2, c3⟩ := hq i (by omega)
  rw [Addr.add_lit] at c0 c1 c2 c3
  refine ⟨ab, ao, rfl, hlt (.cell ab (ao + i * 4)) (by simp only [MemPlace.row, List.mem_map, List.mem_range]; exact ⟨i * 4, by omega, rfl⟩), fun j hj => ?_⟩
  unfold flat4
  have hd : (i * 4 + j) / 4 = i := by omega
  have hm : (i * 4 + j) % 4 = j := by omega
  rw [hd, hm]
  rcases (show j = 0 ∨ j = 1 ∨ j = 2 ∨ j = 3 by omega) with rfl | rfl | rfl | rfl
  · simpa using c0
  · simpa [Nat.add_assoc] using c1
  · simpa [Nat.add_assoc] using c2
  · simpa [Nat.add_assoc] using c3
end Go.Proofs.Ytlfogfjehdgjmaa

/- What the row of a law asks of the program as a whole, each by itself. -/
namespace Go.Proofs.Ytlfogfjehdgjmaa
open Go.ChangeShapes Go.WideShapes Go.ChangeAt Go.RowKit Go.Joins
theorem jn_laid : laidOutB Try.pinned.checked.prog = true := by kernel_rfl
theorem jn_maps : mapsRowed Try.pinned.checked.prog = true := by kernel_rfl
theorem jn_enter : Try.pinned.checked.prog.mayEnter = true := by kernel_rfl
theorem jn_heard : Try.pinned.checked.prog.stopsHeard = true := by kernel_rfl
end Go.Proofs.Ytlfogfjehdgjmaa
