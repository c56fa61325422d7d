/- Part 3 of the walks that the proof leans on. -/
import Derived.Test.YteakhlipmmfilaaGreatLt2
import Derived.Test.YteakhlipmmfilaaGreatLt1
import Derived.Deep.RegionHeld3
import Derived.Deep.DeepCutAuto
import Derived.Test.YteakhlipmmfilaaGreatRows
import Derived.ProofKit
import Derived.Lib.SmallJoins
import Derived.Deep.Strs
import Derived.Deep.OwnRows
/- A spot as a point: the walks of the model's numbers. -/
namespace Go.Proofs.YteakhlipmmfilaaGreat
open Go.RowKit
theorem implOf_det (n : Int) (w : World) (h0 : -9223372036854775808 ≤ n) (h1 : n ≤ 9223372036854775807) : Calls Tryz.prog 159 #[.int .i64 n] w (VP (W4 n) w) := by
  refine (implOf_any n w h0 h1).mono ?_
  rintro e w' ⟨a3, a2, a1, a0, rfl, g3, g2, g1, g0, hs, hB⟩
  obtain ⟨rfl, rfl, rfl, rfl⟩ := wd_of g3 g2 g1 g0 hs
  exact ⟨rfl, hB⟩
/-- Three numbers, side by side. -/
def L3P (k : Nat) (x y z : Int) (w : World) (e : Ending) (w' : World) : Prop :=
  ∃ (s1 : Bool) (o1 : Option Addr) (n1 c1 : Nat) (d1 : List Int) (s2 : Bool) (o2 : Option Addr) (n2 c2 : Nat) (d2 : List Int) (s3 : Bool) (o3 : Option Addr) (n3 c3 : Nat) (d3 : List Int), e = .returned (.agg #[.bool s1, .slice o1 n1 c1, .bool s2, .slice o2 n2 c2, .bool s3, .slice o3 n3 c3]) ∧ IsNum w' s1 o1 n1 c1 d1 x k ∧ IsNum w' s2 o2 n2 c2 d2 y k ∧ IsNum w' s3 o3 n3 c3 d3 z k ∧ Below w.heap.size w w'
theorem IsNum.setp {w : World} {s : Bool} {ao : Option Addr} {n cap : Nat} {ds : List Int} {z : Int} {k : Nat} (h : IsNum w s ao n cap ds z k) {p : Addr} {v : Value} (u : Value) (hp : w.cell? p = some v) (hv : ∀ x, v ≠ .int .u32 x) : IsNum (w.setCell p u) s ao n cap ds z k :=
  h.set hp hv u
theorem num_set6 {w : World} {s : Bool} {ao : Option Addr} {n cap : Nat} {ds : List Int} {z : Int} {k R : Nat} (h : IsNum w s ao n cap ds z k) (B : Blk w R [.bool false, .slice none 0 0, .bool false, .slice none 0 0, .bool false, .slice none 0 0]) (v0 v1 v2 v3 v4 v5 : Value) : IsNum ((((((w.setCell ⟨R, 0, none⟩ v0).setCell ⟨R, 1, none⟩ v1).setCell ⟨R, 2, none⟩ v2).setCell ⟨R, 3, none⟩ v3).setCell ⟨R, 4, none⟩ v4).setCell ⟨R, 5, none⟩ v5) s ao n cap ds z k := by
  have h1 := h.setp v0 (B.c 0 rfl) (by intro x e; cases e)
  have B1 := B.setI 0 (by simp) v0
  have h2 := h1.setp v1 (B1.c 1 rfl) (by intro x e; cases e)
  have B2 := B1.setI 1 (by simp) v1
  have h3 := h2.setp v2 (B2.c 2 rfl) (by intro x e; cases e)
  have B3 := B2.setI 2 (by simp) v2
  have h4 := h3.setp v3 (B3.c 3 rfl) (by intro x e; cases e)
  have B4 := B3.setI 3 (by simp) v3
  have h5 := h4.setp v4 (B4.c 4 rfl) (by intro x e; cases e)
  have B5 := B4.setI 4 (by simp) v4
  have h6 := h5.setp v5 (B5.c 5 rfl) (by intro x e; cases e)
  have B6 := B5.setI 5 (by simp) v5
  exact h6
theorem l3_cells {x y : Int} {w W : World} (h : ArgsB w W [[.int .i64 x, .int .i64 y], [.bool false, .slice none 0 0, .bool false, .slice none 0 0, .bool false, .slice none 0 0]]) : (fun w' => w'.cell? ⟨w.heap.size, 0, none⟩ = some (.int .i64 x) ∧ w'.cell? ⟨w.heap.size, 1, none⟩ = some (.int .i64 y)) W := ⟨(h.b 0 rfl).c 0 rfl, (h.b 0 rfl).c 1 rfl⟩
theorem l3_cells6 {x y : Int} {w W : World} {v0 v1 v2 v3 v4 v5 : Value} (h : ArgsB w W [[.int .i64 x, .int .i64 y], [.bool false, .slice none 0 0, .bool false, .slice none 0 0, .bool false, .slice none 0 0]]) : (fun w' => w'.cell? ⟨w.heap.size, 0, none⟩ = some (.int .i64 x) ∧ w'.cell? ⟨w.heap.size, 1, none⟩ = some (.int .i64 y)) ((((((W.setCell ⟨w.heap.size + 1, 0, none⟩ v0).setCell ⟨w.heap.size + 1, 1, none⟩ v1).setCell ⟨w.heap.size + 1, 2, none⟩ v2).setCell ⟨w.heap.size + 1, 3, none⟩ v3).setCell ⟨w.heap.size + 1, 4, none⟩ v4).setCell ⟨w.heap.size + 1, 5, none⟩ v5) := by
  have a : Blk _ (w.heap.size + 0) _ := (((((((h.b 0 rfl).setO (p := ⟨w.heap.size + 1, 0, none⟩) (by show w.heap.size + 0 ≠ w.heap.size + 1; omega) v0).setO (p := ⟨w.heap.size + 1, 1, none⟩) (by show w.heap.size + 0 ≠ w.heap.size + 1; omega) v1).setO (p := ⟨w.heap.size + 1, 2, none⟩) (by show w.heap.size + 0 ≠ w.heap.size + 1; omega) v2).setO (p := ⟨w.heap.size + 1, 3, none⟩) (by show w.heap.size + 0 ≠ w.heap.size + 1; omega) v3).setO (p := ⟨w.heap.size + 1, 4, none⟩) (by show w.heap.size + 0 ≠ w.heap.size + 1; omega) v4).setO (p := ⟨w.heap.size + 1, 5, none⟩) (by show w.heap.size + 0 ≠ w.heap.size + 1; omega) v5)
  exact ⟨a.c 0 rfl, a.c 1 rfl⟩
theorem l3_start (x y : Int) (w : World) : ArgsB w ((w.alloc (.cells #[.int .i64 x, .int .i64 y] 51)).alloc (.cells #[.bool false, .slice none 0 0, .bool false, .slice none 0 0, .bool false, .slice none 0 0] 90)) [[.int .i64 x, .int .i64 y], [.bool false, .slice none 0 0, .bool false, .slice none 0 0, .bool false, .slice none 0 0]] := by
  refine ⟨((Below.refl _ _).alloc (Nat.le_refl _) _).alloc (by simp) _, fun j vs hj => ?_⟩
  match j, hj with
  | 0, hj => cases hj; exact (Blk.new w [.int .i64 x, .int .i64 y] 51 rfl).alloc _
  | 1, hj => cases hj; exact Blk.new (w.alloc (.cells #[.int .i64 x, .int .i64 y] 51)) [.bool false, .slice none 0 0, .bool false, .slice none 0 0, .bool false, .slice none 0 0] 90 (by simp)
  | j + 2, hj => simp at hj
set_option maxRecDepth 100000 in
set_option maxHeartbeats 2000000 in
theorem l3Spot_any (x y : Int) (hx0 : -9223372036854775808 ≤ x) (hx1 : x ≤ 9223372036854775807) (hy0 : -9223372036854775808 ≤ y) (hy1 : y ≤ 9223372036854775807) (w : World) :
    Calls Tryz.prog 90 #[.agg #[.int .i64 x, .int .i64 y]] w (L3P 2 x y 1 w) := by
  have T0 := l3_start x y w
  have tok1 : True := trivial
  have tok2 : True := trivial
  go_enter Tryz.func90, Tryz.ntmps90
  go_upto_region 1 with fail
  generalize ((w.alloc (.cells #[.int .i64 x, .int .i64 y] 51)).alloc (.cells #[.bool false, .slice none 0 0, .bool false, .slice none 0 0, .bool false, .slice none 0 0] 90)) = W at *
  go_region_held3 (fun w' => w'.cell? ⟨w.heap.size, 0, none⟩ = some (.int .i64 x) ∧ w'.cell? ⟨w.heap.size, 1, none⟩ = some (.int .i64 y)) (first | (with_reducible exact l3_cells T0) | (with_reducible exact l3_cells T0.drew) | (with_reducible exact l3_cells6 T0))
    (first
      | (go_at_call 91; have _t := tok1; refine (int_any x _ hx0 hx1).mono ?_; rintro e w1 ⟨s1, o1, n1, c1, d1, rfl, N1, hB⟩; (first | (have T1 := T0.step hB) | (have T1 := T0.drew.step hB)); clear T0; have T0 := T1; clear T1; clear tok1 _t hB)
      | (go_at_call 91; have _t := tok2; refine (int_any y _ hy0 hy1).mono ?_; rintro e w2 ⟨s2, o2, n2, c2, d2, rfl, N2, hB⟩; replace N1 := N1.below hB; (first | (have T1 := T0.step hB) | (have T1 := T0.drew.step hB)); clear T0; have T0 := T1; clear T1; clear tok2 _t hB)
      | (go_at_call 91; refine (int_any 1 _ (by decide) (by decide)).mono ?_; rintro e w3 ⟨s3, o3, n3, c3, d3, rfl, N3, hB⟩; replace N1 := N1.below hB; replace N2 := N2.below hB; (first | (have T1 := T0.step hB) | (have T1 := T0.drew.step hB)); clear T0; have T0 := T1; clear T1; have r0 := (T0.b 1 rfl).c 0 rfl; have f0 := (T0.b 1 rfl).f 0 rfl; have r1 := (T0.b 1 rfl).c 1 rfl; have f1 := (T0.b 1 rfl).f 1 rfl; have r2 := (T0.b 1 rfl).c 2 rfl; have f2 := (T0.b 1 rfl).f 2 rfl; have r3 := (T0.b 1 rfl).c 3 rfl; have f3 := (T0.b 1 rfl).f 3 rfl; have r4 := (T0.b 1 rfl).c 4 rfl; have f4 := (T0.b 1 rfl).f 4 rfl; have r5 := (T0.b 1 rfl).c 5 rfl; have f5 := (T0.b 1 rfl).f 5 rfl; have rlt := (T0.b 1 rfl).lt; clear hB))
  all_goals have HB := T0.below
  all_goals have M1 := num_set6 N1 (T0.b 1 rfl) (.bool s1) (.slice o1 n1 c1) (.bool s2) (.slice o2 n2 c2) (.bool s3) (.slice o3 n3 c3)
  all_goals have M2 := num_set6 N2 (T0.b 1 rfl) (.bool s1) (.slice o1 n1 c1) (.bool s2) (.slice o2 n2 c2) (.bool s3) (.slice o3 n3 c3)
  all_goals have M3 := num_set6 N3 (T0.b 1 rfl) (.bool s1) (.slice o1 n1 c1) (.bool s2) (.slice o2 n2 c2) (.bool s3) (.slice o3 n3 c3)
  all_goals clear T0 N1 N2 N3
  all_goals go_wp2
  all_goals refine bodyPost_ret (v := .agg #[.bool s1, .slice o1 n1 c1, .bool s2, .slice o2 n2 c2, .bool s3, .slice o3 n3 c3]) (by simp [results, Tryz.results90, go_sem, r0, r1, r2, r3, r4, r5]) rfl ?_
  all_goals refine ⟨s1, o1, n1, c1, d1, s2, o2, n2, c2, d2, s3, o3, n3, c3, d3, rfl, M1, M2, M3, ?_⟩
  all_goals repeat' (refine Below.setCell ?_ (by simp) _)
  all_goals exact HB
end Go.Proofs.YteakhlipmmfilaaGreat

/- A spot as a point: the walks of the model's point of numbers. -/
namespace Go.Proofs.YteakhlipmmfilaaGreat
open Go.RowKit
theorem ret_bool {a b : Bool} (h : b = a) : Ending.returned (.bool a) = .returned (.bool b) := by rw [h]
def small (z : Int) : Bool := decide ((z.natAbs : Int) < 1208925819614629174706176)
end Go.Proofs.YteakhlipmmfilaaGreat

/- Numbers by their own words: what is answered is known ahead. -/
namespace Go.Proofs.YteakhlipmmfilaaGreat
open Go.RowKit
end Go.Proofs.YteakhlipmmfilaaGreat

/- Points: the program's walks. -/
namespace Go.Proofs.YteakhlipmmfilaaGreat
open Go.RowKit
theorem ar1 (a : List Value) (T : TypeId) (w : World) : ArgsB w (w.alloc (.cells a.toArray T)) [a] := by
  refine ⟨(Below.refl _ _).alloc (Nat.le_refl _) _, fun j vs hj => ?_⟩
  match j, hj with
  | 0, hj => cases hj; exact Blk.new w a T rfl
  | j + 1, hj => simp at hj
theorem ArgsB.more {w W : World} {vss : List (List Value)} (h : ArgsB w W vss) (hl : W.heap.size = w.heap.size + vss.length) (b : List Value) (T : TypeId) : ArgsB w (W.alloc (.cells b.toArray T)) (vss ++ [b]) := by
  refine ⟨(h.alloc _).below, fun j vs hj => ?_⟩
  rcases Nat.lt_trichotomy j vss.length with hlt | rfl | hgt
  · rw [List.getElem?_append_left hlt] at hj
    exact (h.b j hj).alloc _
  · simp at hj
    subst hj
    exact Blk.new W b T hl.symm
  · rw [List.getElem?_eq_none (by simp; omega)] at hj
    cases hj
theorem ArgsB.left {w W : World} {us vs : List (List Value)} (h : ArgsB w W (us ++ vs)) : ArgsB w W us := by
  refine ⟨h.below, fun j xs hj => h.b j ?_⟩
  rw [List.getElem?_append_left]
  · exact hj
  · rcases Nat.lt_or_ge j us.length with h | h
    · exact h
    · rw [List.getElem?_eq_none h] at hj; cases hj
theorem ar2 (a b : List Value) (T U : TypeId) (w : World) : ArgsB w ((w.alloc (.cells a.toArray T)).alloc (.cells b.toArray U)) [a, b] := (ar1 a T w).more (by simp) b U
theorem ar3 (a b c : List Value) (T U V : TypeId) (w : World) : ArgsB w (((w.alloc (.cells a.toArray T)).alloc (.cells b.toArray U)).alloc (.cells c.toArray V)) [a, b, c] := (ar2 a b T U w).more (by simp) c V
theorem ar4 (a b c d : List Value) (T U V X : TypeId) (w : World) : ArgsB w ((((w.alloc (.cells a.toArray T)).alloc (.cells b.toArray U)).alloc (.cells c.toArray V)).alloc (.cells d.toArray X)) [a, b, c, d] := (ar3 a b c T U V w).more (by simp) d X
end Go.Proofs.YteakhlipmmfilaaGreat

/- Points: what three numbers have in common. -/
namespace Go.Proofs.YteakhlipmmfilaaGreat
open Go.RowKit
end Go.Proofs.YteakhlipmmfilaaGreat

/- Points: whether one is right, by the program. -/
namespace Go.Proofs.YteakhlipmmfilaaGreat
open Go.RowKit
abbrev PV (x y z : Int) : Value := .agg #[.int .u64 (ww3 x), .int .u64 (ww2 x), .int .u64 (ww1 x), .int .u64 (ww0 x), .int .u64 (ww3 y), .int .u64 (ww2 y), .int .u64 (ww1 y), .int .u64 (ww0 y), .int .u64 (ww3 z), .int .u64 (ww2 z), .int .u64 (ww1 z), .int .u64 (ww0 z)]
/-- Whether the point is right. -/
def ptB (x y z : Int) : Bool := decide (0 < z) && (small x && small y && small z) && decide (Int.gcd (Int.gcd x y) z = 1)
end Go.Proofs.YteakhlipmmfilaaGreat

/- How a value of four words reads as data: opened and shut. -/
namespace Go.Proofs.YteakhlipmmfilaaGreat
open Go.ChangeShapes Go.WideShapes Go.ChangeAt Go.RowKit Go.Joins
theorem Tryz.own : ownKnob Tryz.prog.godebug = none := by kernel_rfl
end Go.Proofs.YteakhlipmmfilaaGreat

/- Points: the law's own copy of one, and how one reads as data. -/
namespace Go.Proofs.YteakhlipmmfilaaGreat
open Go.ChangeShapes Go.WideShapes Go.ChangeAt Go.RowKit Go.Joins
end Go.Proofs.YteakhlipmmfilaaGreat

/- A spot as a point: the walks of the model's point, told, of the program's, and of the law. -/
namespace Go.Proofs.YteakhlipmmfilaaGreat
open Go.RowKit
end Go.Proofs.YteakhlipmmfilaaGreat

/- A spot as a point: the walks of the model's point, of the program's, and of the law. -/
namespace Go.Proofs.YteakhlipmmfilaaGreat
open Go.RowKit
theorem small_int {x : Int} (h0 : -9223372036854775808 ≤ x) (h1 : x ≤ 9223372036854775807) : small x = true := by
  unfold small
  apply decide_eq_true
  omega
theorem ip_cells {x y : Int} {w W : World} (h : ArgsB w W [[.int .i64 x, .int .i64 y], [.int .u64 0, .int .u64 0, .int .u64 0, .int .u64 0, .int .u64 0, .int .u64 0, .int .u64 0, .int .u64 0, .int .u64 0, .int .u64 0, .int .u64 0, .int .u64 0]]) : (fun w' => w'.cell? ⟨w.heap.size, 0, none⟩ = some (.int .i64 x) ∧ w'.cell? ⟨w.heap.size, 1, none⟩ = some (.int .i64 y)) W := ⟨(h.b 0 rfl).c 0 rfl, (h.b 0 rfl).c 1 rfl⟩
theorem ip_cells12 {x y : Int} {w W : World} {v0 v1 v2 v3 v4 v5 v6 v7 v8 v9 v10 v11 : Value} (h : ArgsB w W [[.int .i64 x, .int .i64 y], [.int .u64 0, .int .u64 0, .int .u64 0, .int .u64 0, .int .u64 0, .int .u64 0, .int .u64 0, .int .u64 0, .int .u64 0, .int .u64 0, .int .u64 0, .int .u64 0]]) : (fun w' => w'.cell? ⟨w.heap.size, 0, none⟩ = some (.int .i64 x) ∧ w'.cell? ⟨w.heap.size, 1, none⟩ = some (.int .i64 y)) ((((((((((((W.setCell ⟨w.heap.size + 1, 0, none⟩ v0).setCell ⟨w.heap.size + 1, 1, none⟩ v1).setCell ⟨w.heap.size + 1, 2, none⟩ v2).setCell ⟨w.heap.size + 1, 3, none⟩ v3).setCell ⟨w.heap.size + 1, 4, none⟩ v4).setCell ⟨w.heap.size + 1, 5, none⟩ v5).setCell ⟨w.heap.size + 1, 6, none⟩ v6).setCell ⟨w.heap.size + 1, 7, none⟩ v7).setCell ⟨w.heap.size + 1, 8, none⟩ v8).setCell ⟨w.heap.size + 1, 9, none⟩ v9).setCell ⟨w.heap.size + 1, 10, none⟩ v10).setCell ⟨w.heap.size + 1, 11, none⟩ v11) := by
  have a : Blk _ (w.heap.size + 0) _ := (((((((((((((h.b 0 rfl).setO (p := ⟨w.heap.size + 1, 0, none⟩) (by show w.heap.size + 0 ≠ w.heap.size + 1; omega) v0).setO (p := ⟨w.heap.size + 1, 1, none⟩) (by show w.heap.size + 0 ≠ w.heap.size + 1; omega) v1).setO (p := ⟨w.heap.size + 1, 2, none⟩) (by show w.heap.size + 0 ≠ w.heap.size + 1; omega) v2).setO (p := ⟨w.heap.size + 1, 3, none⟩) (by show w.heap.size + 0 ≠ w.heap.size + 1; omega) v3).setO (p := ⟨w.heap.size + 1, 4, none⟩) (by show w.heap.size + 0 ≠ w.heap.size + 1; omega) v4).setO (p := ⟨w.heap.size + 1, 5, none⟩) (by show w.heap.size + 0 ≠ w.heap.size + 1; omega) v5).setO (p := ⟨w.heap.size + 1, 6, none⟩) (by show w.heap.size + 0 ≠ w.heap.size + 1; omega) v6).setO (p := ⟨w.heap.size + 1, 7, none⟩) (by show w.heap.size + 0 ≠ w.heap.size + 1; omega) v7).setO (p := ⟨w.heap.size + 1, 8, none⟩) (by show w.heap.size + 0 ≠ w.heap.size + 1; omega) v8).setO (p := ⟨w.heap.size + 1, 9, none⟩) (by show w.heap.size + 0 ≠ w.heap.size + 1; omega) v9).setO (p := ⟨w.heap.size + 1, 10, none⟩) (by show w.heap.size + 0 ≠ w.heap.size + 1; omega) v10).setO (p := ⟨w.heap.size + 1, 11, none⟩) (by show w.heap.size + 0 ≠ w.heap.size + 1; omega) v11)
  exact ⟨a.c 0 rfl, a.c 1 rfl⟩
theorem ip_start (x y : Int) (w : World) : ArgsB w ((w.alloc (.cells #[.int .i64 x, .int .i64 y] 51)).alloc (.cells #[.int .u64 0, .int .u64 0, .int .u64 0, .int .u64 0, .int .u64 0, .int .u64 0, .int .u64 0, .int .u64 0, .int .u64 0, .int .u64 0, .int .u64 0, .int .u64 0] 44)) [[.int .i64 x, .int .i64 y], [.int .u64 0, .int .u64 0, .int .u64 0, .int .u64 0, .int .u64 0, .int .u64 0, .int .u64 0, .int .u64 0, .int .u64 0, .int .u64 0, .int .u64 0, .int .u64 0]] := by
  refine ⟨((Below.refl _ _).alloc (Nat.le_refl _) _).alloc (by simp) _, fun j vs hj => ?_⟩
  match j, hj with
  | 0, hj => cases hj; exact (Blk.new w [.int .i64 x, .int .i64 y] 51 rfl).alloc _
  | 1, hj => cases hj; exact Blk.new (w.alloc (.cells #[.int .i64 x, .int .i64 y] 51)) [.int .u64 0, .int .u64 0, .int .u64 0, .int .u64 0, .int .u64 0, .int .u64 0, .int .u64 0, .int .u64 0, .int .u64 0, .int .u64 0, .int .u64 0, .int .u64 0] 44 (by simp)
  | j + 2, hj => simp at hj
set_option maxRecDepth 100000 in
set_option maxHeartbeats 2000000 in
theorem implPointOf_any (x y : Int) (hx0 : -9223372036854775808 ≤ x) (hx1 : x ≤ 9223372036854775807) (hy0 : -9223372036854775808 ≤ y) (hy1 : y ≤ 9223372036854775807) (w : World) :
    Calls Tryz.prog 110 #[.agg #[.int .i64 x, .int .i64 y]] w (VP (.agg #[.int .u64 (ww3 x), .int .u64 (ww2 x), .int .u64 (ww1 x), .int .u64 (ww0 x), .int .u64 (ww3 y), .int .u64 (ww2 y), .int .u64 (ww1 y), .int .u64 (ww0 y), .int .u64 (ww3 1), .int .u64 (ww2 1), .int .u64 (ww1 1), .int .u64 (ww0 1)]) w) := by
  have T0 := ip_start x y w
  have tok1 : True := trivial
  have tok2 : True := trivial
  go_enter Tryz.func110, Tryz.ntmps110
  go_upto_region 1 with fail
  generalize ((w.alloc (.cells #[.int .i64 x, .int .i64 y] 51)).alloc (.cells #[.int .u64 0, .int .u64 0, .int .u64 0, .int .u64 0, .int .u64 0, .int .u64 0, .int .u64 0, .int .u64 0, .int .u64 0, .int .u64 0, .int .u64 0, .int .u64 0] 44)) = W at *
  go_region_held3 (fun w' => w'.cell? ⟨w.heap.size, 0, none⟩ = some (.int .i64 x) ∧ w'.cell? ⟨w.heap.size, 1, none⟩ = some (.int .i64 y)) (first | (with_reducible exact ip_cells T0) | (with_reducible exact ip_cells T0.drew) | (with_reducible exact ip_cells12 T0))
    (first
      | (go_at_call 159; have _t := tok1; refine (implOf_det x _ hx0 hx1).mono ?_; rintro e w1 ⟨rfl, hB⟩; (first | (have T1 := T0.step hB) | (have T1 := T0.drew.step hB)); clear T0; have T0 := T1; clear T1; clear tok1 _t hB)
      | (go_at_call 159; have _t := tok2; refine (implOf_det y _ hy0 hy1).mono ?_; rintro e w2 ⟨rfl, hB⟩; (first | (have T1 := T0.step hB) | (have T1 := T0.drew.step hB)); clear T0; have T0 := T1; clear T1; clear tok2 _t hB)
      | (go_at_call 159; refine (implOf_det 1 _ (by decide) (by decide)).mono ?_; rintro e w3 ⟨rfl, hB⟩; (first | (have T1 := T0.step hB) | (have T1 := T0.drew.step hB)); clear T0; have T0 := T1; clear T1; have tc0 := (T0.b 1 rfl).c 0 rfl; have tf0 := (T0.b 1 rfl).f 0 rfl; have tc1 := (T0.b 1 rfl).c 1 rfl; have tf1 := (T0.b 1 rfl).f 1 rfl; have tc2 := (T0.b 1 rfl).c 2 rfl; have tf2 := (T0.b 1 rfl).f 2 rfl; have tc3 := (T0.b 1 rfl).c 3 rfl; have tf3 := (T0.b 1 rfl).f 3 rfl; have tc4 := (T0.b 1 rfl).c 4 rfl; have tf4 := (T0.b 1 rfl).f 4 rfl; have tc5 := (T0.b 1 rfl).c 5 rfl; have tf5 := (T0.b 1 rfl).f 5 rfl; have tc6 := (T0.b 1 rfl).c 6 rfl; have tf6 := (T0.b 1 rfl).f 6 rfl; have tc7 := (T0.b 1 rfl).c 7 rfl; have tf7 := (T0.b 1 rfl).f 7 rfl; have tc8 := (T0.b 1 rfl).c 8 rfl; have tf8 := (T0.b 1 rfl).f 8 rfl; have tc9 := (T0.b 1 rfl).c 9 rfl; have tf9 := (T0.b 1 rfl).f 9 rfl; have tc10 := (T0.b 1 rfl).c 10 rfl; have tf10 := (T0.b 1 rfl).f 10 rfl; have tc11 := (T0.b 1 rfl).c 11 rfl; have tf11 := (T0.b 1 rfl).f 11 rfl; have tl := (T0.b 1 rfl).lt; clear hB))
  all_goals have F : Blk (((((((((((((w3.setCell ⟨w.heap.size + 1, 0, none⟩ (.int .u64 (ww3 x))).setCell ⟨w.heap.size + 1, 1, none⟩ (.int .u64 (ww2 x))).setCell ⟨w.heap.size + 1, 2, none⟩ (.int .u64 (ww1 x))).setCell ⟨w.heap.size + 1, 3, none⟩ (.int .u64 (ww0 x))).setCell ⟨w.heap.size + 1, 4, none⟩ (.int .u64 (ww3 y))).setCell ⟨w.heap.size + 1, 5, none⟩ (.int .u64 (ww2 y))).setCell ⟨w.heap.size + 1, 6, none⟩ (.int .u64 (ww1 y))).setCell ⟨w.heap.size + 1, 7, none⟩ (.int .u64 (ww0 y))).setCell ⟨w.heap.size + 1, 8, none⟩ (.int .u64 (ww3 1))).setCell ⟨w.heap.size + 1, 9, none⟩ (.int .u64 (ww2 1))).setCell ⟨w.heap.size + 1, 10, none⟩ (.int .u64 (ww1 1))).setCell ⟨w.heap.size + 1, 11, none⟩ (.int .u64 (ww0 1)))) (w.heap.size + 1) [.int .u64 (ww3 x), .int .u64 (ww2 x), .int .u64 (ww1 x), .int .u64 (ww0 x), .int .u64 (ww3 y), .int .u64 (ww2 y), .int .u64 (ww1 y), .int .u64 (ww0 y), .int .u64 (ww3 1), .int .u64 (ww2 1), .int .u64 (ww1 1), .int .u64 (ww0 1)] := ((((((((((((((T0.b 1 rfl).setI 0 (by simp) (.int .u64 (ww3 x))).setI 1 (by simp) (.int .u64 (ww2 x))).setI 2 (by simp) (.int .u64 (ww1 x))).setI 3 (by simp) (.int .u64 (ww0 x))).setI 4 (by simp) (.int .u64 (ww3 y))).setI 5 (by simp) (.int .u64 (ww2 y))).setI 6 (by simp) (.int .u64 (ww1 y))).setI 7 (by simp) (.int .u64 (ww0 y))).setI 8 (by simp) (.int .u64 (ww3 1))).setI 9 (by simp) (.int .u64 (ww2 1))).setI 10 (by simp) (.int .u64 (ww1 1))).setI 11 (by simp) (.int .u64 (ww0 1))))
  all_goals have HBF : Below w.heap.size w (((((((((((((w3.setCell ⟨w.heap.size + 1, 0, none⟩ (.int .u64 (ww3 x))).setCell ⟨w.heap.size + 1, 1, none⟩ (.int .u64 (ww2 x))).setCell ⟨w.heap.size + 1, 2, none⟩ (.int .u64 (ww1 x))).setCell ⟨w.heap.size + 1, 3, none⟩ (.int .u64 (ww0 x))).setCell ⟨w.heap.size + 1, 4, none⟩ (.int .u64 (ww3 y))).setCell ⟨w.heap.size + 1, 5, none⟩ (.int .u64 (ww2 y))).setCell ⟨w.heap.size + 1, 6, none⟩ (.int .u64 (ww1 y))).setCell ⟨w.heap.size + 1, 7, none⟩ (.int .u64 (ww0 y))).setCell ⟨w.heap.size + 1, 8, none⟩ (.int .u64 (ww3 1))).setCell ⟨w.heap.size + 1, 9, none⟩ (.int .u64 (ww2 1))).setCell ⟨w.heap.size + 1, 10, none⟩ (.int .u64 (ww1 1))).setCell ⟨w.heap.size + 1, 11, none⟩ (.int .u64 (ww0 1)))) := (((((((((((((T0.below.setCell (p := ⟨w.heap.size + 1, 0, none⟩) (by simp) (.int .u64 (ww3 x))).setCell (p := ⟨w.heap.size + 1, 1, none⟩) (by simp) (.int .u64 (ww2 x))).setCell (p := ⟨w.heap.size + 1, 2, none⟩) (by simp) (.int .u64 (ww1 x))).setCell (p := ⟨w.heap.size + 1, 3, none⟩) (by simp) (.int .u64 (ww0 x))).setCell (p := ⟨w.heap.size + 1, 4, none⟩) (by simp) (.int .u64 (ww3 y))).setCell (p := ⟨w.heap.size + 1, 5, none⟩) (by simp) (.int .u64 (ww2 y))).setCell (p := ⟨w.heap.size + 1, 6, none⟩) (by simp) (.int .u64 (ww1 y))).setCell (p := ⟨w.heap.size + 1, 7, none⟩) (by simp) (.int .u64 (ww0 y))).setCell (p := ⟨w.heap.size + 1, 8, none⟩) (by simp) (.int .u64 (ww3 1))).setCell (p := ⟨w.heap.size + 1, 9, none⟩) (by simp) (.int .u64 (ww2 1))).setCell (p := ⟨w.heap.size + 1, 10, none⟩) (by simp) (.int .u64 (ww1 1))).setCell (p := ⟨w.heap.size + 1, 11, none⟩) (by simp) (.int .u64 (ww0 1))))
  all_goals clear T0
  all_goals go_wp2
  all_goals generalize (((((((((((((w3.setCell ⟨w.heap.size + 1, 0, none⟩ (.int .u64 (ww3 x))).setCell ⟨w.heap.size + 1, 1, none⟩ (.int .u64 (ww2 x))).setCell ⟨w.heap.size + 1, 2, none⟩ (.int .u64 (ww1 x))).setCell ⟨w.heap.size + 1, 3, none⟩ (.int .u64 (ww0 x))).setCell ⟨w.heap.size + 1, 4, none⟩ (.int .u64 (ww3 y))).setCell ⟨w.heap.size + 1, 5, none⟩ (.int .u64 (ww2 y))).setCell ⟨w.heap.size + 1, 6, none⟩ (.int .u64 (ww1 y))).setCell ⟨w.heap.size + 1, 7, none⟩ (.int .u64 (ww0 y))).setCell ⟨w.heap.size + 1, 8, none⟩ (.int .u64 (ww3 1))).setCell ⟨w.heap.size + 1, 9, none⟩ (.int .u64 (ww2 1))).setCell ⟨w.heap.size + 1, 10, none⟩ (.int .u64 (ww1 1))).setCell ⟨w.heap.size + 1, 11, none⟩ (.int .u64 (ww0 1)))) = WF at *
  all_goals (have u0 := F.c 0 rfl; have u1 := F.c 1 rfl; have u2 := F.c 2 rfl; have u3 := F.c 3 rfl; have u4 := F.c 4 rfl; have u5 := F.c 5 rfl; have u6 := F.c 6 rfl; have u7 := F.c 7 rfl; have u8 := F.c 8 rfl; have u9 := F.c 9 rfl; have u10 := F.c 10 rfl; have u11 := F.c 11 rfl)
  all_goals refine bodyPost_ret (v := .agg #[.int .u64 (ww3 x), .int .u64 (ww2 x), .int .u64 (ww1 x), .int .u64 (ww0 x), .int .u64 (ww3 y), .int .u64 (ww2 y), .int .u64 (ww1 y), .int .u64 (ww0 y), .int .u64 (ww3 1), .int .u64 (ww2 1), .int .u64 (ww1 1), .int .u64 (ww0 1)]) (by simp [results, Tryz.results110, go_sem, u0, u1, u2, u3, u4, u5, u6, u7, u8, u9, u10, u11]) rfl ?_
  all_goals exact ⟨rfl, HBF⟩
end Go.Proofs.YteakhlipmmfilaaGreat

/- Spots and segments beside points: the walks of their rightness, by the model and by the program. -/
namespace Go.Proofs.YteakhlipmmfilaaGreat
open Go.RowKit
abbrev Sp (x y : Int) : Value := .agg #[.int .i64 x, .int .i64 y]
def spotOk (x y : Int) : Bool := decide (-1000000 ≤ x ∧ x ≤ 1000000 ∧ -1000000 ≤ y ∧ y ≤ 1000000)
theorem l1In_any (x a b : Int) (c : Bool) (hc : decide (a ≤ x ∧ x ≤ b) = c) (w : World) : Calls Tryz.prog 188 #[.int .i64 x, .int .i64 a, .int .i64 b] w (BoolP c w) := by
  go_enter Tryz.func188, Tryz.ntmps188
  go_wp2
  all_goals go_ret
  all_goals exact ⟨ret_bool (by subst hc; simp; try omega), Below.refl _ _⟩
theorem implSpotOk_any (x y : Int) (c : Bool) (hc : spotOk x y = c) (w : World) : Calls Tryz.prog 111 #[Sp x y] w (BoolP c w) := by
  go_enter Tryz.func111, Tryz.ntmps111
  go_wp2
  all_goals go_ret
  all_goals exact ⟨ret_bool (by subst hc; unfold spotOk; simp [*]; try omega), (Below.refl _ _).alloc (Nat.le_refl _) _⟩
theorem specSpotOk_any (x y : Int) (c : Bool) (hc : spotOk x y = c) (w : World) : Calls Tryz.prog 164 #[Sp x y] w (BoolP c w) := by
  by_cases hx : -1000000 ≤ x ∧ x ≤ 1000000
  · go_enter Tryz.func164, Tryz.ntmps164
    go_wp2_with fail
    refine (l1In_any _ _ _ true (by simpa using hx) _).mono ?_
    rintro e w1 ⟨rfl, hB⟩
    obtain ⟨hq, _⟩ := bcell hB
    have HB : Below w.heap.size w w1 := ((Below.refl _ _).alloc (Nat.le_refl _) _).trans (hB.mono (by simp))
    clear hB
    go_wp2_with fail
    refine (l1In_any _ _ _ c (by subst hc; unfold spotOk; simp [hx]) _).mono ?_
    rintro e w2 ⟨rfl, hB⟩
    go_wp2
    go_ret
    exact ⟨rfl, HB.trans (hB.mono HB.size)⟩
  · go_enter Tryz.func164, Tryz.ntmps164
    go_wp2_with fail
    refine (l1In_any _ _ _ false (by simpa using hx) _).mono ?_
    rintro e w1 ⟨rfl, hB⟩
    have HB : Below w.heap.size w w1 := ((Below.refl _ _).alloc (Nat.le_refl _) _).trans (hB.mono (by simp))
    clear hB
    go_wp2
    go_ret
    exact ⟨ret_bool (by subst hc; unfold spotOk; simp; omega), HB⟩
def lessI (x y u v : Int) : Bool := decide (x < u ∨ x = u ∧ y < v)
theorem l4Less_any (x y u v : Int) (c : Bool) (hc : lessI x y u v = c) (w : World) : Calls Tryz.prog 64 #[Sp x y, Sp u v] w (BoolP c w) := by
  go_enter Tryz.func64, Tryz.ntmps64
  go_wp2
  all_goals go_ret
  all_goals exact ⟨ret_bool (by subst hc; unfold lessI; simp [*]; try omega), ((Below.refl _ _).alloc (Nat.le_refl _) _).alloc (by simp) _⟩
theorem isAhead_any (x y u v : Int) (c : Bool) (hc : lessI x y u v = c) (w : World) : Calls Tryz.prog 112 #[Sp x y, Sp u v] w (BoolP c w) := by
  go_enter Tryz.func112, Tryz.ntmps112
  go_wp2
  all_goals go_ret
  all_goals exact ⟨ret_bool (by subst hc; unfold lessI; simp [*]; try omega), ((Below.refl _ _).alloc (Nat.le_refl _) _).alloc (by simp) _⟩
abbrev Sg (a b c d : Int) : Value := .agg #[.int .i64 a, .int .i64 b, .int .i64 c, .int .i64 d]
/-- Four cells of a block, to be written. -/
structure Quad (W : World) (g : Nat) (v0 v1 v2 v3 : Value) : Prop where
  c0 : W.cell? ⟨g, 0, none⟩ = some v0
  c1 : W.cell? ⟨g, 1, none⟩ = some v1
  c2 : W.cell? ⟨g, 2, none⟩ = some v2
  c3 : W.cell? ⟨g, 3, none⟩ = some v3
  f0 : W.frozen? ⟨g, 0, none⟩ = false
  f1 : W.frozen? ⟨g, 1, none⟩ = false
  f2 : W.frozen? ⟨g, 2, none⟩ = false
  f3 : W.frozen? ⟨g, 3, none⟩ = false
  lt : g < W.heap.size
theorem Quad.below {W W' : World} {B g : Nat} {v0 v1 v2 v3 : Value} (h : Quad W g v0 v1 v2 v3) (hB : Below B W W') (hg : g < B) : Quad W' g v0 v1 v2 v3 :=
  ⟨(hB.cell (p := ⟨g, 0, none⟩) hg).trans h.c0, (hB.cell (p := ⟨g, 1, none⟩) hg).trans h.c1, (hB.cell (p := ⟨g, 2, none⟩) hg).trans h.c2, (hB.cell (p := ⟨g, 3, none⟩) hg).trans h.c3,
   (hB.frozen (p := ⟨g, 0, none⟩) hg).trans h.f0, (hB.frozen (p := ⟨g, 1, none⟩) hg).trans h.f1, (hB.frozen (p := ⟨g, 2, none⟩) hg).trans h.f2, (hB.frozen (p := ⟨g, 3, none⟩) hg).trans h.f3, Nat.lt_of_lt_of_le h.lt hB.size⟩
theorem Quad.alloc {W : World} {g : Nat} {v0 v1 v2 v3 : Value} (h : Quad W g v0 v1 v2 v3) (o : Obj) : Quad (W.alloc o) g v0 v1 v2 v3 := h.below ((Below.refl W.heap.size W).alloc (Nat.le_refl _) o) h.lt
theorem Quad.new (W : World) (v0 v1 v2 v3 : Value) (t : TypeId) {g : Nat} (hg : g = W.heap.size) : Quad (W.alloc (.cells #[v0, v1, v2, v3] t)) g v0 v1 v2 v3 := by
  subst hg
  constructor <;> simp [go_sem]
def segOk (a b c d : Int) : Bool := spotOk a b && spotOk c d && lessI a b c d
set_option maxRecDepth 100000 in
theorem implSegOk_any (a b c d : Int) (z : Bool) (hz : segOk a b c d = z) (w : World) : Calls Tryz.prog 58 #[Sg a b c d] w (BoolP z w) := by
  have HB0 : Below w.heap.size w (w.alloc (.cells #[.int .i64 a, .int .i64 b, .int .i64 c, .int .i64 d] 53)) := (Below.refl _ _).alloc (Nat.le_refl _) _
  by_cases hx : spotOk a b = true
  · by_cases hy : spotOk c d = true
    · go_enter Tryz.func58, Tryz.ntmps58
      go_wp2_with fail
      refine (implSpotOk_any _ _ true hx _).mono ?_
      rintro e w1 ⟨rfl, hB⟩
      have HB : Below w.heap.size w w1 := HB0.trans (hB.mono (by simp))
      have q0 : Quad w1 w.heap.size _ _ _ _ := (Quad.new w (.int .i64 a) (.int .i64 b) (.int .i64 c) (.int .i64 d) _ rfl).below hB (by simp)
      obtain ⟨q00, q01, q02, q03, -, -, -, -, q08⟩ := id q0
      clear hB
      go_wp2_with fail
      refine (implSpotOk_any _ _ true hy _).mono ?_
      rintro e w2 ⟨rfl, hB⟩
      have HB2 : Below w.heap.size w w2 := HB.trans (hB.mono HB.size)
      have q2 := q0.below hB q0.lt
      clear q00 q01 q02 q03 q08
      obtain ⟨q00, q01, q02, q03, -, -, -, -, q08⟩ := q2
      clear hB HB
      go_wp2_with fail
      refine (isAhead_any _ _ _ _ z (by rw [← hz]; simp [segOk, hx, hy]) _).mono ?_
      rintro e w3 ⟨rfl, hB⟩
      go_wp2
      go_ret
      exact ⟨rfl, HB2.trans (hB.mono HB2.size)⟩
    · have hy := Bool.eq_false_iff.2 hy
      go_enter Tryz.func58, Tryz.ntmps58
      go_wp2_with fail
      refine (implSpotOk_any _ _ true hx _).mono ?_
      rintro e w1 ⟨rfl, hB⟩
      have HB : Below w.heap.size w w1 := HB0.trans (hB.mono (by simp))
      have q0 : Quad w1 w.heap.size _ _ _ _ := (Quad.new w (.int .i64 a) (.int .i64 b) (.int .i64 c) (.int .i64 d) _ rfl).below hB (by simp)
      obtain ⟨q00, q01, q02, q03, -, -, -, -, q08⟩ := id q0
      clear hB
      go_wp2_with fail
      refine (implSpotOk_any _ _ false hy _).mono ?_
      rintro e w2 ⟨rfl, hB⟩
      have HB2 : Below w.heap.size w w2 := HB.trans (hB.mono HB.size)
      clear hB HB
      go_wp2
      go_ret
      exact ⟨ret_bool (by rw [← hz]; simp [segOk, hx, hy]), HB2⟩
  · have hx := Bool.eq_false_iff.2 hx
    go_enter Tryz.func58, Tryz.ntmps58
    go_wp2_with fail
    refine (implSpotOk_any _ _ false hx _).mono ?_
    rintro e w1 ⟨rfl, hB⟩
    have HB : Below w.heap.size w w1 := HB0.trans (hB.mono (by simp))
    clear hB
    go_wp2
    go_ret
    exact ⟨ret_bool (by rw [← hz]; simp [segOk, hx]), HB⟩
end Go.Proofs.YteakhlipmmfilaaGreat

/- The ends of a segment as points: the program's walk. -/
namespace Go.Proofs.YteakhlipmmfilaaGreat
open Go.RowKit
theorem Blk.set12 {W : World} {vs : List Value} {v0 v1 v2 v3 v4 v5 v6 v7 v8 v9 v10 v11 : Value} {g g' : Nat} (G : Blk W g' vs) (hg : g' ≠ g) : Blk ((((((((((((W.setCell ⟨g, 0, none⟩ v0).setCell ⟨g, 1, none⟩ v1).setCell ⟨g, 2, none⟩ v2).setCell ⟨g, 3, none⟩ v3).setCell ⟨g, 4, none⟩ v4).setCell ⟨g, 5, none⟩ v5).setCell ⟨g, 6, none⟩ v6).setCell ⟨g, 7, none⟩ v7).setCell ⟨g, 8, none⟩ v8).setCell ⟨g, 9, none⟩ v9).setCell ⟨g, 10, none⟩ v10).setCell ⟨g, 11, none⟩ v11) g' vs :=
  (((((((((((G.setO hg v0).setO hg v1).setO hg v2).setO hg v3).setO hg v4).setO hg v5).setO hg v6).setO hg v7).setO hg v8).setO hg v9).setO hg v10).setO hg v11
theorem Blk.stored12 {W : World} {g : Nat} {z0 z1 z2 z3 z4 z5 z6 z7 z8 z9 z10 z11 : Value} (G : Blk W g [z0, z1, z2, z3, z4, z5, z6, z7, z8, z9, z10, z11]) (v0 v1 v2 v3 v4 v5 v6 v7 v8 v9 v10 v11 : Value) : Blk ((((((((((((W.setCell ⟨g, 0, none⟩ v0).setCell ⟨g, 1, none⟩ v1).setCell ⟨g, 2, none⟩ v2).setCell ⟨g, 3, none⟩ v3).setCell ⟨g, 4, none⟩ v4).setCell ⟨g, 5, none⟩ v5).setCell ⟨g, 6, none⟩ v6).setCell ⟨g, 7, none⟩ v7).setCell ⟨g, 8, none⟩ v8).setCell ⟨g, 9, none⟩ v9).setCell ⟨g, 10, none⟩ v10).setCell ⟨g, 11, none⟩ v11) g [v0, v1, v2, v3, v4, v5, v6, v7, v8, v9, v10, v11] :=
  (((((((((((G.setI 0 (by simp) v0).setI 1 (by simp) v1).setI 2 (by simp) v2).setI 3 (by simp) v3).setI 4 (by simp) v4).setI 5 (by simp) v5).setI 6 (by simp) v6).setI 7 (by simp) v7).setI 8 (by simp) v8).setI 9 (by simp) v9).setI 10 (by simp) v10).setI 11 (by simp) v11
theorem Below.set12 {B g : Nat} {w W : World} {v0 v1 v2 v3 v4 v5 v6 v7 v8 v9 v10 v11 : Value} (hg : B ≤ g) (h : Below B w W) : Below B w ((((((((((((W.setCell ⟨g, 0, none⟩ v0).setCell ⟨g, 1, none⟩ v1).setCell ⟨g, 2, none⟩ v2).setCell ⟨g, 3, none⟩ v3).setCell ⟨g, 4, none⟩ v4).setCell ⟨g, 5, none⟩ v5).setCell ⟨g, 6, none⟩ v6).setCell ⟨g, 7, none⟩ v7).setCell ⟨g, 8, none⟩ v8).setCell ⟨g, 9, none⟩ v9).setCell ⟨g, 10, none⟩ v10).setCell ⟨g, 11, none⟩ v11) :=
  (((((((((((h.setCell (p := ⟨g, 0, none⟩) hg _).setCell (p := ⟨g, 1, none⟩) hg _).setCell (p := ⟨g, 2, none⟩) hg _).setCell (p := ⟨g, 3, none⟩) hg _).setCell (p := ⟨g, 4, none⟩) hg _).setCell (p := ⟨g, 5, none⟩) hg _).setCell (p := ⟨g, 6, none⟩) hg _).setCell (p := ⟨g, 7, none⟩) hg _).setCell (p := ⟨g, 8, none⟩) hg _).setCell (p := ⟨g, 9, none⟩) hg _).setCell (p := ⟨g, 10, none⟩) hg _).setCell (p := ⟨g, 11, none⟩) hg _
end Go.Proofs.YteakhlipmmfilaaGreat

/- Rows of spots, and rings of them: how they lie, copied, held against one another, counted. -/
namespace Go.Proofs.YteakhlipmmfilaaGreat
open Go.RowKit
abbrev Ps := Nat → Int × Int
/-- The side of a ring from a spot on, its lesser end first. -/
def sdA (n : Nat) (p : Ps) (i : Nat) : Int × Int × Int × Int := if lessI (p ((i + 1) % n)).1 (p ((i + 1) % n)).2 (p i).1 (p i).2 = true then ((p ((i + 1) % n)).1, (p ((i + 1) % n)).2, (p i).1, (p i).2) else ((p i).1, (p i).2, (p ((i + 1) % n)).1, (p ((i + 1) % n)).2)
/-- No spot stands twice. -/
abbrev OneN (n : Nat) (p : Ps) : Prop := ∀ i, i < n → ∀ k, k < i → p i ≠ p k
/-- n spots lie behind a slice's address. -/
def SpIn (w : World) (ao : Option Addr) (n : Nat) (p : Ps) : Prop :=
  ∀ i, i < n → ∃ A off, ao = some ⟨A, off, none⟩ ∧ A < w.heap.size ∧ w.cell? ⟨A, off + i * 2, none⟩ = some (.int .i64 (p i).1) ∧ w.cell? ⟨A, off + i * 2 + 1, none⟩ = some (.int .i64 (p i).2)
theorem SpIn.step {w w' : World} {ao : Option Addr} {n : Nat} {p : Ps} (h : SpIn w ao n p) (hB : Below w.heap.size w w') : SpIn w' ao n p := fun i hi => by
  obtain ⟨A, off, e, hA, h0, h1⟩ := h i hi
  exact ⟨A, off, e, Nat.lt_of_lt_of_le hA hB.size, (hB.cell (p := ⟨A, off + i * 2, none⟩) hA).trans h0, (hB.cell (p := ⟨A, off + i * 2 + 1, none⟩) hA).trans h1⟩
theorem SpIn.drew {w : World} {ao : Option Addr} {n : Nat} {p : Ps} (h : SpIn w ao n p) : SpIn w.drew ao n p := h
/-- The numbers of a row of spots, one behind the other. -/
def spW (p : Ps) (k : Nat) : Int := if k % 2 = 0 then (p (k / 2)).1 else (p (k / 2)).2
theorem spW0 (p : Ps) (c : Nat) : spW p (c * 2) = (p c).1 := by
  unfold spW
  rw [if_pos (by omega), show c * 2 / 2 = c by omega]
theorem spW1 (p : Ps) (c : Nat) : spW p (c * 2 + 1) = (p c).2 := by
  unfold spW
  rw [if_neg (by omega), show (c * 2 + 1) / 2 = c by omega]
theorem spIn_row {w : World} {g n : Nat} {T : TypeId} {p : Ps} (h : w.rowIs g T (n * 2) (fun i => .int .i64 (spW p i))) : SpIn w (some ⟨g, 0, none⟩) n p := fun i hi =>
  ⟨g, 0, rfl, h.lt, by rw [Nat.zero_add, h.cell (by omega), spW0], by rw [Nat.zero_add, h.cell (by omega), spW1]⟩
theorem toSpot_det (x y : Int) (w : World) : Calls Tryz.prog 118 #[Sp x y] w (VP (Sp x y) w) := by
  go_enter Tryz.func118, Tryz.ntmps118
  go_wp2
  refine bodyPost_ret (v := Sp x y) (by simp [results, Tryz.results118, go_sem]) rfl ?_
  exact ⟨rfl, (((Below.refl _ _).alloc (Nat.le_refl _) _).alloc (by simp) _).alloc (by simp; omega) _⟩
theorem eqSpot_det (x y : Int) (w : World) : Calls Tryz.prog 73 #[Sp x y, Sp x y] w (BoolP true w) := by
  go_enter Tryz.func73, Tryz.ntmps73
  go_wp2
  go_ret
  exact ⟨rfl, ((Below.refl _ _).alloc (Nat.le_refl _) _).alloc (by simp) _⟩
theorem Tryz.infoSpot : (Tryz.prog.info? 51).map (fun i => (i.zero, i.size, i.bytes)) = some (some (.agg #[.int .i64 0, .int .i64 0]), 2, 16) := by kernel_rfl
theorem make_spots (n : Nat) (hn : n ≤ 1048576) (w : World) : (Instr.makeSlice 55 (.int .i64 (n : Int)) (.int .i64 (n : Int))).run Tryz.prog w = .ok (.slice (some ⟨w.heap.size, 0, none⟩) n n) (w.alloc (.cells (madeCells #[.int .i64 0, .int .i64 0] (n * 2)) 51)) := by
  obtain ⟨i, hi, hzz⟩ := Option.map_eq_some_iff.1 Tryz.infoSpot
  simp only [Prod.mk.injEq] at hzz
  obtain ⟨hz, hs, hb⟩ := hzz
  have hr := run_make (P := Tryz.prog) w 55 51 i (.agg #[.int .i64 0, .int .i64 0]) Tryz.underlying55 hi hz .i64 .i64 n n (by omega) (Int.le_refl _) (by rw [hb]; omega) (by omega)
  simp only [Int.toNat_natCast, hs, Value.cells] at hr
  exact hr
theorem rows_made (w : World) (n : Nat) (T : TypeId) : (w.alloc (.cells (madeCells #[.int .i64 0, .int .i64 0] (n * 2)) T)).rowIs w.heap.size T (n * 2) (fun _ => .int .i64 0) := by
  have h := World.rowIs_alloc w (madeCells #[.int .i64 0, .int .i64 0] (n * 2)) T (fun _ => .int .i64 0) (fun i hi => by
    rw [size_madeCells] at hi
    simp [madeCells, hi]
    rcases (show i % 2 = 0 ∨ i % 2 = 1 by omega) with h | h <;> simp [h])
  rwa [size_madeCells] at h
/-- So far the row holds what was copied, behind it zeros. -/
def cpS (p : Ps) (c : Nat) (i : Nat) : Value := .int .i64 (if i < c * 2 then spW p i else 0)
theorem rows_step {w w' : World} {g n : Nat} {T : TypeId} {f : Nat → Value} (h : w.rowIs g T n f) (hB : Below w.heap.size w w') : w'.rowIs g T n f := h.of_block (hB.block g h.lt)
theorem cps_step {w : World} {g n c : Nat} {T : TypeId} {p : Ps} (h : w.rowIs g T (n * 2) (cpS p c)) : ((w.setCell ⟨g, c * 2, none⟩ (.int .i64 (p c).1)).setCell ⟨g, c * 2 + 1, none⟩ (.int .i64 (p c).2)).rowIs g T (n * 2) (cpS p (c + 1)) := by
  refine ((h.set (c * 2) (.int .i64 (p c).1)).set (c * 2 + 1) (.int .i64 (p c).2)).congr (fun i hi => ?_)
  unfold cpS
  by_cases h1 : i = c * 2 + 1
  · subst h1
    rw [if_pos rfl, if_pos (by omega), spW1]
  rw [if_neg h1]
  by_cases h0 : i = c * 2
  · subst h0
    rw [if_pos rfl, if_pos (by omega), spW0]
  rw [if_neg h0]
  by_cases hl : i < c * 2
  · rw [if_pos hl, if_pos (by omega)]
  · rw [if_neg hl, if_neg (by omega)]
set_option maxRecDepth 100000 in
set_option maxHeartbeats 2000000 in
theorem toSpotS_any (ao : Option Addr) (n cap : Nat) (p : Ps) (hn : n ≤ 1048576) (w : World) (hS : SpIn w ao n p) : Calls Tryz.prog 65 #[.slice ao n cap] w (fun e w' => ∃ g, e = .returned (.slice (some ⟨g, 0, none⟩) n n) ∧ w.heap.size ≤ g ∧ w'.rowIs g 51 (n * 2) (fun i => .int .i64 (spW p i)) ∧ Below w.heap.size w w') := by
  have MK := make_spots n hn
  have HS : Hid (SpIn w ao n p) := hS
  clear hS
  go_enter Tryz.func65, Tryz.ntmps65
  go_wp2_with fail
  have R0 := rows_made w n 51
  have B0 : Below w.heap.size w (w.alloc (.cells (madeCells #[.int .i64 0, .int .i64 0] (n * 2)) 51)) := (Below.refl _ _).alloc (Nat.le_refl _) _
  generalize w.alloc (.cells (madeCells #[.int .i64 0, .int .i64 0] (n * 2)) 51) = W1 at *
  have hnI : (n : Int) ≤ 1048576 := by omega
  clear MK
  go_loopw [4] (fun i wr => ∃ c : Nat, c ≤ n ∧ i = .int .i64 c ∧ wr.rowIs w.heap.size 51 (n * 2) (cpS p c) ∧ Below w.heap.size w wr) (fun i _ => n - (intOf i).toNat)
  case atStart => exact ⟨0, by omega, rfl, R0.congr (fun i _ => by unfold cpS; simp), B0⟩
  case round =>
    clear R0 B0
    obtain ⟨c, hc, rfl, R, HB⟩ := hrel
    by_cases hcn : c < n
    · obtain ⟨A, off, rfl, hA, q0, q1⟩ := HS.out.step HB c hcn
      have hcI : (c : Int) < n := by omega
      go_wp2_with fail
      refine (toSpot_det (p c).1 (p c).2 _).mono ?_
      rintro e w1 ⟨rfl, hB⟩
      replace R := rows_step R hB
      replace HB := HB.trans (hB.mono HB.size)
      have o0 := R.cell (i := c * 2) (by omega); have o1 := R.cell (i := c * 2 + 1) (by omega)
      have f0 := R.frozen (c * 2); have f1 := R.frozen (c * 2 + 1)
      have RN := cps_step R
      have HN : Below w.heap.size w ((w1.setCell ⟨w.heap.size, c * 2, none⟩ (.int .i64 (p c).1)).setCell ⟨w.heap.size, c * 2 + 1, none⟩ (.int .i64 (p c).2)) := (HB.setCell (by simp) _).setCell (by simp) _
      clear hB q0 q1 hA R HB
      go_wp2
      go_roundw
      case rel => exact ⟨c + 1, by omega, by go_num, RN, HN⟩
      case measure => simp [intOf]; omega
    · obtain rfl : c = n := by omega
      have RN : wr.rowIs w.heap.size 51 (c * 2) (fun i => .int .i64 (spW p i)) := R.congr (fun i hi => by unfold cpS; rw [if_pos hi])
      clear R HS
      go_wp2
      go_ret
      exact ⟨_, rfl, Nat.le_refl _, RN, HB⟩
set_option maxRecDepth 100000 in
set_option maxHeartbeats 2000000 in
theorem eqSpotS_any (ao bo : Option Addr) (n ca cb : Nat) (p : Ps) (hn : n ≤ 1048576) (w : World) (hA : SpIn w ao n p) (hC : SpIn w bo n p) : Calls Tryz.prog 74 #[.slice ao n ca, .slice bo n cb] w (BoolP true w) := by
  have HA : Hid (SpIn w ao n p) := hA
  have HC : Hid (SpIn w bo n p) := hC
  have hnI : (n : Int) ≤ 1048576 := by omega
  clear hA hC
  go_enter Tryz.func74, Tryz.ntmps74
  go_wp2_with fail
  go_loopw [5] (fun i wr => ∃ c : Nat, c ≤ n ∧ i = .int .i64 c ∧ Below w.heap.size w wr) (fun i _ => n - (intOf i).toNat)
  case atStart => exact ⟨0, by omega, rfl, Below.refl _ _⟩
  case round =>
    obtain ⟨c, hc, rfl, HB⟩ := hrel
    by_cases hcn : c < n
    · obtain ⟨A, off, rfl, hA, q0, q1⟩ := HA.out.step HB c hcn
      obtain ⟨B, of2, rfl, hB', r0, r1⟩ := HC.out.step HB c hcn
      have hcI : (c : Int) < n := by omega
      have ES := eqSpot_det (p c).1 (p c).2
      have KS : (fun w' => w'.cell? ⟨A, off + c * 2, none⟩ = some (.int .i64 (p c).1) ∧ w'.cell? ⟨A, off + c * 2 + 1, none⟩ = some (.int .i64 (p c).2) ∧ w'.cell? ⟨B, of2 + c * 2, none⟩ = some (.int .i64 (p c).1) ∧ w'.cell? ⟨B, of2 + c * 2 + 1, none⟩ = some (.int .i64 (p c).2)) wr := ⟨q0, q1, r0, r1⟩
      go_wp2_with fail
      go_region_held3 (fun w' => w'.cell? ⟨A, off + c * 2, none⟩ = some (.int .i64 (p c).1) ∧ w'.cell? ⟨A, off + c * 2 + 1, none⟩ = some (.int .i64 (p c).2) ∧ w'.cell? ⟨B, of2 + c * 2, none⟩ = some (.int .i64 (p c).1) ∧ w'.cell? ⟨B, of2 + c * 2 + 1, none⟩ = some (.int .i64 (p c).2)) (first | (exact KS) | (exact KS'))
        (first
          | (go_at_call 73; refine (ES _).mono ?_; rintro e w1 ⟨rfl, hB⟩; have KS' : (fun w' => w'.cell? ⟨A, off + c * 2, none⟩ = some (.int .i64 (p c).1) ∧ w'.cell? ⟨A, off + c * 2 + 1, none⟩ = some (.int .i64 (p c).2) ∧ w'.cell? ⟨B, of2 + c * 2, none⟩ = some (.int .i64 (p c).1) ∧ w'.cell? ⟨B, of2 + c * 2 + 1, none⟩ = some (.int .i64 (p c).2)) w1 := ⟨(hB.cell (p := ⟨A, _, none⟩) hA).trans q0, (hB.cell (p := ⟨A, _, none⟩) hA).trans q1, (hB.cell (p := ⟨B, _, none⟩) hB').trans r0, (hB.cell (p := ⟨B, _, none⟩) hB').trans r1⟩; (first | (have HB2 := HB.trans (hB.mono HB.size)) | (have HB2 := HB.drew.trans (hB.mono HB.drew.size))); clear hB))
      all_goals clear HB KS q0 q1 r0 r1 ES
      all_goals go_wp2
      all_goals go_roundw
      case rel => exact ⟨c + 1, by omega, by go_num, HB2⟩
      case measure => simp [intOf]; omega
    · obtain rfl : c = n := by omega
      clear HA HC
      go_wp2
      go_ret
      exact ⟨rfl, HB⟩
set_option maxRecDepth 100000 in
set_option maxHeartbeats 2000000 in
theorem toRing_any (ao : Option Addr) (m cap : Nat) (q : Ps) (hm : m ≤ 1048576) (w : World) (hS : SpIn w ao m q) : Calls Tryz.prog 31 #[.agg #[.slice ao m cap]] w (fun e w' => ∃ g, e = .returned (.agg #[.slice (some ⟨g, 0, none⟩) m m]) ∧ w.heap.size ≤ g ∧ w'.rowIs g 51 (m * 2) (fun i => .int .i64 (spW q i)) ∧ Below w.heap.size w w') := by
  have HB : Below w.heap.size w (((w.alloc (.cells #[.slice ao m cap] 61)).alloc (.cells #[.slice none 0 0] 57)).alloc (.cells #[.slice none 0 0] 57)) := (((Below.refl _ w).alloc (Nat.le_refl _) _).alloc (by simp) _).alloc (by simp; omega) _
  have B0 := ((Blk.new w [.slice ao m cap] 61 rfl).alloc (.cells #[.slice none 0 0] 57)).alloc (.cells #[.slice none 0 0] 57)
  have B1 := (Blk.new (w.alloc (.cells #[.slice ao m cap] 61)) [.slice none 0 0] 57 (g := w.heap.size + 1) (by simp)).alloc (.cells #[.slice none 0 0] 57)
  have B2 := Blk.new ((w.alloc (.cells #[.slice ao m cap] 61)).alloc (.cells #[.slice none 0 0] 57)) [.slice none 0 0] 57 (g := w.heap.size + 1 + 1) (by simp)
  have HS := hS.step HB
  have hsz : (((w.alloc (.cells #[.slice ao m cap] 61)).alloc (.cells #[.slice none 0 0] 57)).alloc (.cells #[.slice none 0 0] 57)).heap.size = w.heap.size + 3 := by simp
  have TP := fun w h => toSpotS_any ao m cap q hm w h
  clear hS
  go_enter Tryz.func31, Tryz.ntmps31
  have b0 := B0.c 0 rfl
  go_wp2_with fail
  refine (TP _ HS).mono ?_
  rintro e w1 ⟨g, rfl, hg, R, hB⟩
  rw [hsz] at hg
  replace B1 := B1.step hB; replace B2 := B2.step hB
  replace HB := HB.trans (hB.mono HB.size)
  clear hB TP B0 b0 HS hsz
  have c0 := B1.c 0 rfl; have f0 := B1.f 0 rfl; have l1 := B1.lt; have d0 := B2.c 0 rfl; have e0 := B2.f 0 rfl; have l2 := B2.lt
  have RN : ((w1.setCell ⟨w.heap.size + 1 + 1, 0, none⟩ (.slice (some ⟨g, 0, none⟩) m m)).setCell ⟨w.heap.size + 1, 0, none⟩ (.slice (some ⟨g, 0, none⟩) m m)).rowIs g 51 (m * 2) (fun i => .int .i64 (spW q i)) := (R.setOther (by show g ≠ w.heap.size + 1 + 1; omega) _).setOther (by show g ≠ w.heap.size + 1; omega) _
  have HN : Below w.heap.size w ((w1.setCell ⟨w.heap.size + 1 + 1, 0, none⟩ (.slice (some ⟨g, 0, none⟩) m m)).setCell ⟨w.heap.size + 1, 0, none⟩ (.slice (some ⟨g, 0, none⟩) m m)) := Below.setCell (Below.setCell HB (by show w.heap.size ≤ w.heap.size + 1 + 1; omega) _) (by show w.heap.size ≤ w.heap.size + 1; omega) _
  clear R HB B1 B2
  go_wp2
  refine bodyPost_ret (v := .agg #[.slice (some ⟨g, 0, none⟩) m m]) (by simp [results, Tryz.results31, go_sem, c0]) rfl ?_
  exact ⟨g, rfl, by omega, RN, HN⟩
set_option maxRecDepth 100000 in
set_option maxHeartbeats 2000000 in
theorem eqRing_any (ao bo : Option Addr) (m ca cb : Nat) (q : Ps) (hm : m ≤ 1048576) (w : World) (hA : SpIn w ao m q) (hC : SpIn w bo m q) : Calls Tryz.prog 37 #[.agg #[.slice ao m ca], .agg #[.slice bo m cb]] w (BoolP true w) := by
  have HB : Below w.heap.size w ((w.alloc (.cells #[.slice ao m ca] 57)).alloc (.cells #[.slice bo m cb] 57)) := ((Below.refl _ w).alloc (Nat.le_refl _) _).alloc (by simp) _
  have B0 := (Blk.new w [.slice ao m ca] 57 rfl).alloc (.cells #[.slice bo m cb] 57)
  have B1 := Blk.new (w.alloc (.cells #[.slice ao m ca] 57)) [.slice bo m cb] 57 (g := w.heap.size + 1) (by simp)
  have HA := hA.step HB
  have HC := hC.step HB
  have EP := fun w h h' => eqSpotS_any ao bo m ca cb q hm w h h'
  clear hA hC
  go_enter Tryz.func37, Tryz.ntmps37
  have b0 := B0.c 0 rfl
  have b1 := B1.c 0 rfl
  go_wp2_with fail
  refine (EP _ HA HC).mono ?_
  rintro e w1 ⟨rfl, hB⟩
  replace HB := HB.trans (hB.mono HB.size)
  clear hB EP HA HC B0 B1 b0 b1
  go_wp2
  go_ret
  exact ⟨rfl, HB⟩
theorem szSpotS_any (ao : Option Addr) (m cap : Nat) (l : Int) (h0 : 0 ≤ l) (h1 : l ≤ 1048576) (hm : m ≤ 9223372036854775807) (w : World) : Calls Tryz.prog 62 #[.slice ao m cap, .int .i64 l] w (VP (.int .i64 (if (m : Int) ≤ l then l - m else -1)) w) := by
  have hmI : (m : Int) ≤ 9223372036854775807 := by omega
  by_cases h : (m : Int) ≤ l
  · rw [if_pos h]
    go_enter Tryz.func62, Tryz.ntmps62
    go_wp2
    go_ret
    exact ⟨rfl, Below.refl _ _⟩
  · rw [if_neg h]
    have h' : l < (m : Int) := by omega
    go_enter Tryz.func62, Tryz.ntmps62
    go_wp2
    go_ret
    exact ⟨rfl, Below.refl _ _⟩
theorem szRing_any (ao : Option Addr) (m cap : Nat) (l : Int) (h0 : 0 ≤ l) (h1 : l ≤ 1048576) (hm : m ≤ 9223372036854775807) (w : World) : Calls Tryz.prog 27 #[.agg #[.slice ao m cap], .int .i64 l] w (VP (.int .i64 (if (m : Int) ≤ l then l - m else -1)) w) := by
  have HB : Below w.heap.size w (w.alloc (.cells #[.slice ao m cap] 61)) := (Below.refl _ w).alloc (Nat.le_refl _) _
  have B0 := Blk.new w [.slice ao m cap] 61 rfl
  have SP := szSpotS_any ao m cap l h0 h1 hm
  go_enter Tryz.func27, Tryz.ntmps27
  have b0 := B0.c 0 rfl
  by_cases h : (m : Int) ≤ l
  · rw [if_pos h] at SP ⊢
    go_wp2_with fail
    refine (SP _).mono ?_
    rintro e w1 ⟨rfl, hB⟩
    replace HB := HB.trans (hB.mono HB.size)
    clear hB SP B0 b0
    have h2 : 0 ≤ l - (m : Int) := by omega
    go_wp2
    go_ret
    exact ⟨rfl, HB⟩
  · rw [if_neg h] at SP ⊢
    go_wp2_with fail
    refine (SP _).mono ?_
    rintro e w1 ⟨rfl, hB⟩
    replace HB := HB.trans (hB.mono HB.size)
    clear hB SP B0 b0
    go_wp2
    go_ret
    exact ⟨rfl, HB⟩
end Go.Proofs.YteakhlipmmfilaaGreat

/- A segment of two spots: the program's walk. -/
namespace Go.Proofs.YteakhlipmmfilaaGreat
open Go.RowKit
set_option maxRecDepth 100000 in
set_option maxHeartbeats 400000 in
theorem implSegOf_any (x y u v A B C D : Int) (l k : Bool) (hl : lessI u v x y = l) (hk : segOk A B C D = k) (hA : cond l u x = A) (hB : cond l v y = B) (hC : cond l x u = C) (hD : cond l y v = D) (w : World) :
    Calls Tryz.prog 67 #[Sp x y, Sp u v] w (VP (.tuple #[Sg (cond k A 0) (cond k B 0) (cond k C 0) (cond k D 0), .bool k]) w) := by
  cases l <;> simp only [cond_true, cond_false] at hA hB hC hD <;> subst hA hB hC hD
  · have B0 := Blk.new w [.int .i64 x, .int .i64 y] 51 rfl
    have HB0 : Below w.heap.size w _ := (Below.refl _ w).alloc (Nat.le_refl _) (.cells #[.int .i64 x, .int .i64 y] 51)
    have B1 := Blk.new (w.alloc (.cells #[.int .i64 x, .int .i64 y] 51)) [.int .i64 u, .int .i64 v] 51 (g := w.heap.size + 1) (by simp)
    replace B0 := B0.alloc (.cells #[.int .i64 u, .int .i64 v] 51)
    replace HB0 := HB0.alloc (by simp) (.cells #[.int .i64 u, .int .i64 v] 51)
    have B2 := Blk.new ((w.alloc (.cells #[.int .i64 x, .int .i64 y] 51)).alloc (.cells #[.int .i64 u, .int .i64 v] 51)) [.int .i64 0, .int .i64 0, .int .i64 0, .int .i64 0] 53 (g := w.heap.size + 1 + 1) (by simp)
    replace B0 := B0.alloc (.cells #[.int .i64 0, .int .i64 0, .int .i64 0, .int .i64 0] 53)
    replace B1 := B1.alloc (.cells #[.int .i64 0, .int .i64 0, .int .i64 0, .int .i64 0] 53)
    replace HB0 := HB0.alloc (by simp; omega) (.cells #[.int .i64 0, .int .i64 0, .int .i64 0, .int .i64 0] 53)
    have B3 := Blk.new (((w.alloc (.cells #[.int .i64 x, .int .i64 y] 51)).alloc (.cells #[.int .i64 u, .int .i64 v] 51)).alloc (.cells #[.int .i64 0, .int .i64 0, .int .i64 0, .int .i64 0] 53)) [.int .i64 x, .int .i64 y, .int .i64 u, .int .i64 v] 53 (g := w.heap.size + 1 + 1 + 1) (by simp)
    replace B0 := B0.alloc (.cells #[.int .i64 x, .int .i64 y, .int .i64 u, .int .i64 v] 53)
    replace B1 := B1.alloc (.cells #[.int .i64 x, .int .i64 y, .int .i64 u, .int .i64 v] 53)
    replace B2 := B2.alloc (.cells #[.int .i64 x, .int .i64 y, .int .i64 u, .int .i64 v] 53)
    replace HB0 := HB0.alloc (by simp; omega) (.cells #[.int .i64 x, .int .i64 y, .int .i64 u, .int .i64 v] 53)
    go_enter Tryz.func67, Tryz.ntmps67
    go_wp2_with fail
    refine (isAhead_any _ _ _ _ false hl _).mono ?_
    rintro e w1 ⟨rfl, hB⟩
    replace B0 := B0.step hB; replace B1 := B1.step hB; replace B2 := B2.step hB; replace B3 := B3.step hB
    have HB : Below w.heap.size w w1 := HB0.trans (hB.mono HB0.size)
    clear hB HB0
    have cB00 := B0.c 0 rfl; have fB00 := B0.f 0 rfl; have cB01 := B0.c 1 rfl; have fB01 := B0.f 1 rfl; have cB10 := B1.c 0 rfl; have fB10 := B1.f 0 rfl; have cB11 := B1.c 1 rfl; have fB11 := B1.f 1 rfl; have cB20 := B2.c 0 rfl; have fB20 := B2.f 0 rfl; have cB21 := B2.c 1 rfl; have fB21 := B2.f 1 rfl; have cB22 := B2.c 2 rfl; have fB22 := B2.f 2 rfl; have cB23 := B2.c 3 rfl; have fB23 := B2.f 3 rfl; have cB30 := B3.c 0 rfl; have fB30 := B3.f 0 rfl; have cB31 := B3.c 1 rfl; have fB31 := B3.f 1 rfl; have cB32 := B3.c 2 rfl; have fB32 := B3.f 2 rfl; have cB33 := B3.c 3 rfl; have fB33 := B3.f 3 rfl; have ltB0 := B0.lt; have ltB1 := B1.lt; have ltB2 := B2.lt; have ltB3 := B3.lt
    go_wp2_with fail
    have D2 := B2
    have D3 := B3
    have HC := HB
    refine (implSegOk_any _ _ _ _ k hk _).mono ?_
    rintro e w2 ⟨rfl, hB⟩
    replace D2 := D2.step hB
    replace D3 := D3.step hB
    have HD : Below w.heap.size w w2 := HC.trans (hB.mono HC.size)
    clear hB HC HB B0 B1 B2 B3 cB00 fB00 cB01 fB01 cB10 fB10 cB11 fB11 cB20 fB20 cB21 fB21 cB22 fB22 cB23 fB23 cB30 fB30 cB31 fB31 cB32 fB32 cB33 fB33 ltB0 ltB1 ltB2 ltB3
    have cD20 := D2.c 0 rfl; have fD20 := D2.f 0 rfl; have cD21 := D2.c 1 rfl; have fD21 := D2.f 1 rfl; have cD22 := D2.c 2 rfl; have fD22 := D2.f 2 rfl; have cD23 := D2.c 3 rfl; have fD23 := D2.f 3 rfl; have cD30 := D3.c 0 rfl; have fD30 := D3.f 0 rfl; have cD31 := D3.c 1 rfl; have fD31 := D3.f 1 rfl; have cD32 := D3.c 2 rfl; have fD32 := D3.f 2 rfl; have cD33 := D3.c 3 rfl; have fD33 := D3.f 3 rfl
    have ltD2 := D2.lt; have ltD3 := D3.lt
    cases k
    · go_wp2
      refine bodyPost_ret (v := .tuple #[Sg 0 0 0 0, .bool false]) (by simp [results, Tryz.results67, go_sem, cD20, cD21, cD22, cD23]) rfl ?_
      refine ⟨rfl, ?_⟩
      repeat' (refine Below.setCell ?_ (by simp; try omega) _)
      exact HD
    · go_wp2
      refine bodyPost_ret (v := .tuple #[Sg x y u v, .bool true]) (by simp [results, Tryz.results67, go_sem, cD20, cD21, cD22, cD23]) rfl ?_
      refine ⟨rfl, ?_⟩
      repeat' (refine Below.setCell ?_ (by simp; try omega) _)
      exact HD
  · have B0 := Blk.new w [.int .i64 x, .int .i64 y] 51 rfl
    have HB0 : Below w.heap.size w _ := (Below.refl _ w).alloc (Nat.le_refl _) (.cells #[.int .i64 x, .int .i64 y] 51)
    have B1 := Blk.new (w.alloc (.cells #[.int .i64 x, .int .i64 y] 51)) [.int .i64 u, .int .i64 v] 51 (g := w.heap.size + 1) (by simp)
    replace B0 := B0.alloc (.cells #[.int .i64 u, .int .i64 v] 51)
    replace HB0 := HB0.alloc (by simp) (.cells #[.int .i64 u, .int .i64 v] 51)
    have B2 := Blk.new ((w.alloc (.cells #[.int .i64 x, .int .i64 y] 51)).alloc (.cells #[.int .i64 u, .int .i64 v] 51)) [.int .i64 0, .int .i64 0, .int .i64 0, .int .i64 0] 53 (g := w.heap.size + 1 + 1) (by simp)
    replace B0 := B0.alloc (.cells #[.int .i64 0, .int .i64 0, .int .i64 0, .int .i64 0] 53)
    replace B1 := B1.alloc (.cells #[.int .i64 0, .int .i64 0, .int .i64 0, .int .i64 0] 53)
    replace HB0 := HB0.alloc (by simp; omega) (.cells #[.int .i64 0, .int .i64 0, .int .i64 0, .int .i64 0] 53)
    have B3 := Blk.new (((w.alloc (.cells #[.int .i64 x, .int .i64 y] 51)).alloc (.cells #[.int .i64 u, .int .i64 v] 51)).alloc (.cells #[.int .i64 0, .int .i64 0, .int .i64 0, .int .i64 0] 53)) [.int .i64 x, .int .i64 y, .int .i64 u, .int .i64 v] 53 (g := w.heap.size + 1 + 1 + 1) (by simp)
    replace B0 := B0.alloc (.cells #[.int .i64 x, .int .i64 y, .int .i64 u, .int .i64 v] 53)
    replace B1 := B1.alloc (.cells #[.int .i64 x, .int .i64 y, .int .i64 u, .int .i64 v] 53)
    replace B2 := B2.alloc (.cells #[.int .i64 x, .int .i64 y, .int .i64 u, .int .i64 v] 53)
    replace HB0 := HB0.alloc (by simp; omega) (.cells #[.int .i64 x, .int .i64 y, .int .i64 u, .int .i64 v] 53)
    go_enter Tryz.func67, Tryz.ntmps67
    go_wp2_with fail
    refine (isAhead_any _ _ _ _ true hl _).mono ?_
    rintro e w1 ⟨rfl, hB⟩
    replace B0 := B0.step hB; replace B1 := B1.step hB; replace B2 := B2.step hB; replace B3 := B3.step hB
    have HB : Below w.heap.size w w1 := HB0.trans (hB.mono HB0.size)
    clear hB HB0
    have cB00 := B0.c 0 rfl; have fB00 := B0.f 0 rfl; have cB01 := B0.c 1 rfl; have fB01 := B0.f 1 rfl; have cB10 := B1.c 0 rfl; have fB10 := B1.f 0 rfl; have cB11 := B1.c 1 rfl; have fB11 := B1.f 1 rfl; have cB20 := B2.c 0 rfl; have fB20 := B2.f 0 rfl; have cB21 := B2.c 1 rfl; have fB21 := B2.f 1 rfl; have cB22 := B2.c 2 rfl; have fB22 := B2.f 2 rfl; have cB23 := B2.c 3 rfl; have fB23 := B2.f 3 rfl; have cB30 := B3.c 0 rfl; have fB30 := B3.f 0 rfl; have cB31 := B3.c 1 rfl; have fB31 := B3.f 1 rfl; have cB32 := B3.c 2 rfl; have fB32 := B3.f 2 rfl; have cB33 := B3.c 3 rfl; have fB33 := B3.f 3 rfl; have ltB0 := B0.lt; have ltB1 := B1.lt; have ltB2 := B2.lt; have ltB3 := B3.lt
    go_wp2_with fail
    have D2 := ((((B2.setO (p := ⟨w.heap.size + 1 + 1 + 1, 0, none⟩) (by simp) (.int .i64 u)).setO (p := ⟨w.heap.size + 1 + 1 + 1, 1, none⟩) (by simp) (.int .i64 v)).setO (p := ⟨w.heap.size + 1 + 1 + 1, 2, none⟩) (by simp) (.int .i64 x)).setO (p := ⟨w.heap.size + 1 + 1 + 1, 3, none⟩) (by simp) (.int .i64 y))
    have D3 := ((((B3.setI 0 (by simp) (.int .i64 u)).setI 1 (by simp) (.int .i64 v)).setI 2 (by simp) (.int .i64 x)).setI 3 (by simp) (.int .i64 y))
    simp only [List.set_cons_zero, List.set_cons_succ] at D3
    have HC := ((((HB.setCell (p := ⟨w.heap.size + 1 + 1 + 1, 0, none⟩) (by simp; omega) (.int .i64 u)).setCell (p := ⟨w.heap.size + 1 + 1 + 1, 1, none⟩) (by simp; omega) (.int .i64 v)).setCell (p := ⟨w.heap.size + 1 + 1 + 1, 2, none⟩) (by simp; omega) (.int .i64 x)).setCell (p := ⟨w.heap.size + 1 + 1 + 1, 3, none⟩) (by simp; omega) (.int .i64 y))
    refine (implSegOk_any _ _ _ _ k hk _).mono ?_
    rintro e w2 ⟨rfl, hB⟩
    replace D2 := D2.step hB
    replace D3 := D3.step hB
    have HD : Below w.heap.size w w2 := HC.trans (hB.mono HC.size)
    clear hB HC HB B0 B1 B2 B3 cB00 fB00 cB01 fB01 cB10 fB10 cB11 fB11 cB20 fB20 cB21 fB21 cB22 fB22 cB23 fB23 cB30 fB30 cB31 fB31 cB32 fB32 cB33 fB33 ltB0 ltB1 ltB2 ltB3
    have cD20 := D2.c 0 rfl; have fD20 := D2.f 0 rfl; have cD21 := D2.c 1 rfl; have fD21 := D2.f 1 rfl; have cD22 := D2.c 2 rfl; have fD22 := D2.f 2 rfl; have cD23 := D2.c 3 rfl; have fD23 := D2.f 3 rfl; have cD30 := D3.c 0 rfl; have fD30 := D3.f 0 rfl; have cD31 := D3.c 1 rfl; have fD31 := D3.f 1 rfl; have cD32 := D3.c 2 rfl; have fD32 := D3.f 2 rfl; have cD33 := D3.c 3 rfl; have fD33 := D3.f 3 rfl
    have ltD2 := D2.lt; have ltD3 := D3.lt
    cases k
    · go_wp2
      refine bodyPost_ret (v := .tuple #[Sg 0 0 0 0, .bool false]) (by simp [results, Tryz.results67, go_sem, cD20, cD21, cD22, cD23]) rfl ?_
      refine ⟨rfl, ?_⟩
      repeat' (refine Below.setCell ?_ (by simp; try omega) _)
      exact HD
    · go_wp2
      refine bodyPost_ret (v := .tuple #[Sg u v x y, .bool true]) (by simp [results, Tryz.results67, go_sem, cD20, cD21, cD22, cD23]) rfl ?_
      refine ⟨rfl, ?_⟩
      repeat' (refine Below.setCell ?_ (by simp; try omega) _)
      exact HD
end Go.Proofs.YteakhlipmmfilaaGreat

/- A ring's sides: the walks of both sides. -/
namespace Go.Proofs.YteakhlipmmfilaaGreat
open Go.RowKit
set_option maxRecDepth 100000 in
set_option maxHeartbeats 4000000 in
theorem spotAfter_any (ao : Option Addr) (n cap : Nat) (p : Ps) (i : Nat) (hi : i < n) (hn : n ≤ 1048576) (w : World) (hS : SpIn w ao n p) : Calls Tryz.prog 68 #[.agg #[.slice ao n cap], .int .i64 (i : Int)] w (VP (Sp (p ((i + 1) % n)).1 (p ((i + 1) % n)).2) w) := by
  have hm : (i + 1) % n < n := Nat.mod_lt _ (by omega)
  obtain ⟨A, off, rfl, hA, q0, q1⟩ := hS _ hm
  have B0 := (Blk.new w [.slice (some ⟨A, off, none⟩) n cap] 57 rfl).alloc (.cells #[.int .i64 0, .int .i64 0] 51)
  have B1 := Blk.new (w.alloc (.cells #[.slice (some ⟨A, off, none⟩) n cap] 57)) [.int .i64 0, .int .i64 0] 51 (g := w.heap.size + 1) (by simp)
  have HB : Below w.heap.size w ((w.alloc (.cells #[.slice (some ⟨A, off, none⟩) n cap] 57)).alloc (.cells #[.int .i64 0, .int .i64 0] 51)) := ((Below.refl _ w).alloc (Nat.le_refl _) _).alloc (by simp) _
  replace q0 := (HB.cell (p := ⟨A, _, none⟩) hA).trans q0
  replace q1 := (HB.cell (p := ⟨A, _, none⟩) hA).trans q1
  have hrem : ((i : Int) + 1).tmod (n : Int) = (((i + 1) % n : Nat) : Int) := by
    rw [Int.tmod_eq_emod_of_nonneg (by omega), Int.natCast_emod]
    rfl
  have hadd : IntKind.i64.wrap ((i : Int) + 1) = (i : Int) + 1 := by rw [IntKind.wrap_i64]; omega
  have hmI : (((i + 1) % n : Nat) : Int) < n := by have := Nat.mod_lt (i + 1) (show 0 < n by omega); omega
  have hl0 : ¬ ((n : Int) = 0) := by omega
  have hl1 : ¬ (n = 0) := by omega
  have hne : A ≠ w.heap.size := by omega
  have hne1 : A ≠ w.heap.size + 1 := by omega
  go_enter Tryz.func68, Tryz.ntmps68
  go_upto_region 1 with fail
  generalize (w.alloc (.cells #[.slice (some ⟨A, off, none⟩) n cap] 57)).alloc (.cells #[.int .i64 0, .int .i64 0] 51) = W at *
  have HK : ∀ W', Below (w.heap.size + 1) W W' → (fun w' : World => w'.cell? ⟨w.heap.size, 0, none⟩ = some (.slice (some ⟨A, off, none⟩) n cap) ∧ w'.cell? ⟨A, off + ((i + 1) % n) * 2, none⟩ = some (.int .i64 (p ((i + 1) % n)).1) ∧ w'.cell? ⟨A, off + ((i + 1) % n) * 2 + 1, none⟩ = some (.int .i64 (p ((i + 1) % n)).2)) W' := fun W' h => ⟨(B0.below h (by omega)).c 0 rfl, (h.cell (p := ⟨A, _, none⟩) (by show A < w.heap.size + 1; omega)).trans q0, (h.cell (p := ⟨A, _, none⟩) (by show A < w.heap.size + 1; omega)).trans q1⟩
  have H0 : Below (w.heap.size + 1) W W := Below.refl _ _
  have z0 := B1.c 0 rfl; have z1 := B1.c 1 rfl; have y0 := B1.f 0 rfl; have y1 := B1.f 1 rfl; have zl := B1.lt
  have hI1 : (i : Int) < n := by omega
  have hnI : (n : Int) ≤ 1048576 := by omega
  clear hm hS B0 q0 q1
  generalize ((i + 1) % n) = e' at *
  go_region_held3 (fun w' : World => w'.cell? ⟨w.heap.size, 0, none⟩ = some (.slice (some ⟨A, off, none⟩) n cap) ∧ w'.cell? ⟨A, off + e' * 2, none⟩ = some (.int .i64 (p e').1) ∧ w'.cell? ⟨A, off + e' * 2 + 1, none⟩ = some (.int .i64 (p e').2)) (refine HK _ ?_ <;> repeat (first | (with_reducible exact H0) | (with_reducible refine Below.drew ?_) | (with_reducible refine Below.setCell ?_ (by first | exact Nat.le_refl _ | simp) _))) (fail)
  all_goals have RN : Blk ((W.setCell ⟨w.heap.size + 1, 0, none⟩ (.int .i64 (p e').1)).setCell ⟨w.heap.size + 1, 1, none⟩ (.int .i64 (p e').2)).drew (w.heap.size + 1) [.int .i64 (p e').1, .int .i64 (p e').2] := ((B1.setI 0 (by simp) _).setI 1 (by simp) _).drew
  all_goals have HN : Below w.heap.size w ((W.setCell ⟨w.heap.size + 1, 0, none⟩ (.int .i64 (p e').1)).setCell ⟨w.heap.size + 1, 1, none⟩ (.int .i64 (p e').2)).drew := ((HB.setCell (p := ⟨w.heap.size + 1, 0, none⟩) (by simp) _).setCell (p := ⟨w.heap.size + 1, 1, none⟩) (by simp) _).drew
  all_goals have r0 := RN.c 0 rfl; have r1 := RN.c 1 rfl
  all_goals go_wp2
  all_goals refine bodyPost_ret (v := Sp (p e').1 (p e').2) (by simp [results, Tryz.results68, go_sem, r0, r1]) rfl ?_
  all_goals exact ⟨rfl, HN⟩
/-- The greatest kind of meeting that two sides may have. -/
def moI (n i j : Nat) : Int := if i + 1 = j ∨ j + 1 = i ∨ i + n = j + 1 ∨ j + n = i + 1 then 1 else 0
set_option maxRecDepth 100000 in
set_option maxHeartbeats 4000000 in
theorem most_any (ao : Option Addr) (n cap : Nat) (i j : Nat) (hi : i < n) (hj : j < n) (hn : n ≤ 1048576) (h3 : 2 ≤ n) (w : World) : Calls Tryz.prog 134 #[.agg #[.slice ao n cap], .int .i64 (i : Int), .int .i64 (j : Int)] w (VP (.int .i64 (moI n i j)) w) := by
  have HB : Below w.heap.size w (w.alloc (.cells #[.slice ao n cap] 57)) := (Below.refl _ w).alloc (Nat.le_refl _) _
  have B0 := Blk.new w [.slice ao n cap] 57 rfl
  have s1 : IntKind.i64.wrap ((i : Int) - j) = (i : Int) - j := by rw [IntKind.wrap_i64]; omega
  have s2 : IntKind.i64.wrap ((j : Int) - i) = (j : Int) - i := by rw [IntKind.wrap_i64]; omega
  have s3 : IntKind.i64.wrap ((n : Int) - 1) = (n : Int) - 1 := by rw [IntKind.wrap_i64]; omega
  have b0 := B0.c 0 rfl
  go_enter Tryz.func134, Tryz.ntmps134
  go_upto_region 1 with fail
  generalize (w.alloc (.cells #[.slice ao n cap] 57)) = W at *
  go_upto_region 2 with fail
  generalize hz : (if (i : Int) - j < (j : Int) - i then (j : Int) - i else (i : Int) - j) = z at *
  have hz2 : (z = (i : Int) - j ∧ (j : Int) ≤ i) ∨ (z = (j : Int) - i ∧ (i : Int) ≤ j) := by
    rw [← hz]
    split <;> omega
  clear hz s1 s2
  by_cases a1 : z = 1
  · have HO : Hid (moI n i j = 1) := by show _ = _; unfold moI; rw [if_pos (by omega)]
    subst a1
    clear hz2 B0
    go_wp2
    go_ret
    exact ⟨by rw [HO.out]; rfl, HB⟩
  · have a1' : (z == 1) = false := beq_eq_false_iff_ne.2 a1
    by_cases a2 : z = (n : Int) - 1
    · have HO : Hid (moI n i j = 1) := by show _ = _; unfold moI; rw [if_pos (by omega)]
      have a2' : (z == (n : Int) - 1) = true := by rw [a2]; exact beq_self_eq_true _
      clear hz2 B0 a1 a2
      go_wp2
      go_ret
      exact ⟨by rw [HO.out]; rfl, HB⟩
    · have HO : Hid (moI n i j = 0) := by show _ = _; unfold moI; rw [if_neg (by omega)]
      have a2' : (z == (n : Int) - 1) = false := beq_eq_false_iff_ne.2 a2
      clear hz2 B0 a1 a2
      go_wp2
      go_ret
      exact ⟨by rw [HO.out]; rfl, HB⟩
set_option maxRecDepth 100000 in
set_option maxHeartbeats 4000000 in
theorem wrong_any (ao : Option Addr) (n cap : Nat) (p : Ps) (hn : n ≤ 1048576) (w : World) (hS : SpIn w ao n p) : Calls Tryz.prog 81 #[.agg #[.slice ao n cap]] w (VP (.bool (decide (¬ (∀ i, i < n → spotOk (p i).1 (p i).2 = true)))) w) := by
  have B0 := Blk.new w [.slice ao n cap] 57 rfl
  have HB0 : Below w.heap.size w (w.alloc (.cells #[.slice ao n cap] 57)) := (Below.refl _ w).alloc (Nat.le_refl _) _
  have hmI : (n : Int) ≤ 1048576 := by omega
  have HS : Hid (SpIn (w.alloc (.cells #[.slice ao n cap] 57)) ao n p) := hS.step HB0
  clear hS
  go_enter Tryz.func81, Tryz.ntmps81
  have b0 := B0.c 0 rfl
  go_wp2_with fail
  generalize (w.alloc (.cells #[.slice ao n cap] 57)) = W1 at *
  go_loopw [8] (fun i wr => ∃ c : Nat, c ≤ n ∧ i = .int .i64 c ∧ (∀ j, j < c → spotOk (p j).1 (p j).2 = true) ∧ Below W1.heap.size W1 wr) (fun i _ => n - (intOf i).toNat)
  case atStart => exact ⟨0, by omega, rfl, fun j hj => by omega, Below.refl _ _⟩
  case round =>
    obtain ⟨c, hc, rfl, hall, HB⟩ := hrel
    have HA : Hid (∀ j, j < c → spotOk (p j).1 (p j).2 = true) := hall
    clear hall b0
    by_cases hcn : c < n
    · obtain ⟨A, off, rfl, hA, q0, q1⟩ := HS.out.step HB c hcn
      have hcI : (c : Int) < n := by omega
      clear B0
      go_wp2_with fail
      refine (implSpotOk_any (p c).1 (p c).2 _ rfl _).mono ?_
      rintro e w1 ⟨rfl, hB⟩
      replace HB := (HB.alloc HB.size _).trans (hB.mono (HB.alloc HB.size _).size)
      clear hB q0 q1 hA
      by_cases hk : spotOk (p c).1 (p c).2 = true
      · rw [hk]
        have HK : Hid (spotOk (p c).1 (p c).2 = true) := hk
        clear hk
        go_wp2
        go_roundw
        case rel => exact ⟨c + 1, by omega, by go_num, fun j hj => by
          rcases Nat.lt_or_ge j c with h | h
          · exact HA.out j h
          · obtain rfl : j = c := by omega
            exact HK.out, HB⟩
        case measure => simp [intOf]; omega
      · have HO : Hid (decide (¬ (∀ i, i < n → spotOk (p i).1 (p i).2 = true)) = true) := decide_eq_true (fun h => hk (h c hcn))
        rw [Bool.eq_false_iff.2 hk]
        have HBF := HB0.trans (HB.mono HB0.size)
        clear hk
        go_wp2
        go_ret
        exact ⟨by rw [HO.out]; rfl, HBF⟩
    · obtain rfl : c = n := by omega
      have HO : Hid (decide (¬ (∀ i, i < c → spotOk (p i).1 (p i).2 = true)) = false) := decide_eq_false (fun h => h HA.out)
      have HBF := HB0.trans (HB.mono HB0.size)
      clear HA HS B0
      go_wp2
      go_ret
      exact ⟨by rw [HO.out]; rfl, HBF⟩
end Go.Proofs.YteakhlipmmfilaaGreat

/- Whether a spot stands twice in a ring: the program's walk. -/
namespace Go.Proofs.YteakhlipmmfilaaGreat
open Go.RowKit
theorem eqSp2 (x y u v : Int) (w : World) : (Op.equalIn 10000 51 (Sp x y) (Sp u v)).run Tryz.prog w = .ok (decide (x = u) && decide (y = v)) w := by
  have u3 := Tryz.underlying2
  have a3 := Tryz.isAgg2
  have z3 := Tryz.sizeOf2
  rw [show (10000 : Nat) = 9999 + 1 from rfl, Op.equalIn]
  simp only [Sem.run_bind, run_underlying Tryz.underlying51, Result.andThen_ok]
  go_simp
  by_cases h1 : x = u
  · by_cases h2 : y = v
    · simp [h1, h2]
    · simp [h1, h2]
  · simp [h1]
/-- Whether a spot is among the first ones. -/
def amB (n : Nat) (p : Ps) (x y : Int) : Bool := decide (∃ i, i < n ∧ (p i).1 = x ∧ (p i).2 = y)
set_option maxRecDepth 100000 in
set_option maxHeartbeats 4000000 in
theorem index_any (ao : Option Addr) (n cap : Nat) (p : Ps) (x y : Int) (hn : n ≤ 1048576) (w : World) (hS : SpIn w ao n p) : Calls Tryz.prog 171 #[.slice ao n cap, Sp x y] w (fun e w' => ∃ k : Int, e = .returned (.int .i64 k) ∧ decide (0 ≤ k) = amB n p x y ∧ Below w.heap.size w w') := by
  have B0 := Blk.new w [.int .i64 x, .int .i64 y] 51 rfl
  have HB0 : Below w.heap.size w (w.alloc (.cells #[.int .i64 x, .int .i64 y] 51)) := (Below.refl _ w).alloc (Nat.le_refl _) _
  have hmI : (n : Int) ≤ 1048576 := by omega
  have HS : Hid (SpIn (w.alloc (.cells #[.int .i64 x, .int .i64 y] 51)) ao n p) := hS.step HB0
  clear hS
  go_enter Tryz.func171, Tryz.ntmps171
  go_wp2_with fail
  generalize (w.alloc (.cells #[.int .i64 x, .int .i64 y] 51)) = W1 at *
  go_loopw [8] (fun i wr => ∃ c : Nat, c ≤ n ∧ i = .int .i64 c ∧ (∀ j, j < c → ¬ ((p j).1 = x ∧ (p j).2 = y)) ∧ Below W1.heap.size W1 wr) (fun i _ => n - (intOf i).toNat)
  case atStart => exact ⟨0, by omega, rfl, fun j hj => by omega, Below.refl _ _⟩
  case round =>
    obtain ⟨c, hc, rfl, hall, HB⟩ := hrel
    have HA : Hid (∀ j, j < c → ¬ ((p j).1 = x ∧ (p j).2 = y)) := hall
    clear hall
    by_cases hcn : c < n
    · obtain ⟨A, off, rfl, hA, q0, q1⟩ := HS.out.step HB c hcn
      have hcI : (c : Int) < n := by omega
      replace B0 := B0.step HB
      have b0 := B0.c 0 rfl; have b1 := B0.c 1 rfl
      have EQ := eqSp2 x y (p c).1 (p c).2
      have KS : (fun w' : World => w'.cell? ⟨w.heap.size, 0, none⟩ = some (.int .i64 x) ∧ w'.cell? ⟨w.heap.size, 1, none⟩ = some (.int .i64 y) ∧ w'.cell? ⟨A, off + c * 2, none⟩ = some (.int .i64 (p c).1) ∧ w'.cell? ⟨A, off + c * 2 + 1, none⟩ = some (.int .i64 (p c).2)) wr := ⟨b0, b1, q0, q1⟩
      go_upto_region 4 with fail
      go_region_held3 (fun w' : World => w'.cell? ⟨w.heap.size, 0, none⟩ = some (.int .i64 x) ∧ w'.cell? ⟨w.heap.size, 1, none⟩ = some (.int .i64 y) ∧ w'.cell? ⟨A, off + c * 2, none⟩ = some (.int .i64 (p c).1) ∧ w'.cell? ⟨A, off + c * 2 + 1, none⟩ = some (.int .i64 (p c).2)) (exact KS) (fail)
      all_goals have HBF := HB0.trans (HB.drew.mono HB0.size)
      all_goals clear KS b0 b1 q0 q1 EQ B0 hA HS
      all_goals by_cases h : x = (p c).1 ∧ y = (p c).2
      all_goals first
        | (obtain ⟨h1, h2⟩ := h
           have HO : Hid (decide (0 ≤ (c : Int)) = amB n p x y) := by
             show _ = _
             rw [decide_eq_true (by omega), eq_comm]
             exact decide_eq_true ⟨c, hcn, h1.symm, h2.symm⟩
           have d1 : (decide (x = (p c).1) && decide (y = (p c).2)) = true := by simp [h1, h2]
           rw [d1]
           clear d1 h1 h2 HA
           go_wp2
           go_ret
           exact ⟨(c : Int), rfl, HO.out, HBF⟩)
        | (have d1 : (decide (x = (p c).1) && decide (y = (p c).2)) = false := by
             rw [Bool.eq_false_iff]
             intro hh
             simp at hh
             exact h hh
           have HH : Hid (¬ (x = (p c).1 ∧ y = (p c).2)) := h
           rw [d1]
           clear d1 h HBF
           have HBD := HB.drew
           clear HB
           go_wp2
           go_roundw)
      case rel => exact ⟨c + 1, by omega, by go_num, fun j hj => by
        rcases Nat.lt_or_ge j c with h | h
        · exact HA.out j h
        · obtain rfl : j = c := by omega
          exact fun k => HH.out ⟨k.1.symm, k.2.symm⟩, HBD⟩
      case measure => simp [intOf]; omega
    · obtain rfl : c = n := by omega
      have HO : Hid (decide (0 ≤ (-1 : Int)) = amB c p x y) := by
        show _ = _
        rw [decide_eq_false (by omega), eq_comm]
        exact decide_eq_false (fun ⟨i, hi, h⟩ => HA.out i hi h)
      have HBF := HB0.trans (HB.mono HB0.size)
      clear HA HS B0
      go_wp2
      go_ret
      exact ⟨-1, rfl, HO.out, HBF⟩
set_option maxRecDepth 100000 in
set_option maxHeartbeats 4000000 in
theorem contains_any (ao : Option Addr) (n cap : Nat) (p : Ps) (x y : Int) (hn : n ≤ 1048576) (w : World) (hS : SpIn w ao n p) : Calls Tryz.prog 133 #[.slice ao n cap, Sp x y] w (VP (.bool (amB n p x y)) w) := by
  have B0 := Blk.new w [.int .i64 x, .int .i64 y] 51 rfl
  have HB0 : Below w.heap.size w (w.alloc (.cells #[.int .i64 x, .int .i64 y] 51)) := (Below.refl _ w).alloc (Nat.le_refl _) _
  have HS := hS.step HB0
  clear hS
  have b0 := B0.c 0 rfl; have b1 := B0.c 1 rfl
  go_enter Tryz.func133, Tryz.ntmps133
  go_wp2_with fail
  refine (index_any ao n cap p x y hn _ HS).mono ?_
  rintro e w1 ⟨k, rfl, hk, hB⟩
  have HBF := HB0.trans (hB.mono HB0.size)
  have HO : Hid (decide (0 ≤ k) = amB n p x y) := hk
  clear hB B0 b0 b1 HS hk
  go_wp2
  go_ret
  exact ⟨by rw [← HO.out]; rfl, HBF⟩
set_option maxRecDepth 100000 in
set_option maxHeartbeats 4000000 in
theorem twice_any (ao : Option Addr) (n cap : Nat) (p : Ps) (hn : n ≤ 1048576) (w : World) (hS : SpIn w ao n p) (hcap : n ≤ cap) (hcap2 : cap ≤ 9223372036854775807) : Calls Tryz.prog 82 #[.agg #[.slice ao n cap]] w (VP (.bool (decide (¬ OneN n p))) w) := by
  have B0 := Blk.new w [.slice ao n cap] 57 rfl
  have HB0 : Below w.heap.size w (w.alloc (.cells #[.slice ao n cap] 57)) := (Below.refl _ w).alloc (Nat.le_refl _) _
  have hmI : (n : Int) ≤ 1048576 := by omega
  have hcI1 : (n : Int) ≤ cap := by omega
  have hcI2 : (cap : Int) ≤ 9223372036854775807 := by omega
  have HS : Hid (SpIn (w.alloc (.cells #[.slice ao n cap] 57)) ao n p) := hS.step HB0
  clear hS
  go_enter Tryz.func82, Tryz.ntmps82
  have b0 := B0.c 0 rfl
  go_wp2_with fail
  generalize (w.alloc (.cells #[.slice ao n cap] 57)) = W1 at *
  go_loopw [8] (fun i wr => ∃ c : Nat, c ≤ n ∧ i = .int .i64 c ∧ (∀ j, j < c → ∀ k, k < j → p j ≠ p k) ∧ Below W1.heap.size W1 wr) (fun i _ => n - (intOf i).toNat)
  case atStart => exact ⟨0, by omega, rfl, fun j hj => by omega, Below.refl _ _⟩
  case round =>
    obtain ⟨c, hc, rfl, hall, HB⟩ := hrel
    have HA : Hid (∀ j, j < c → ∀ k, k < j → p j ≠ p k) := hall
    clear hall b0
    by_cases hcn : c < n
    · obtain ⟨A, off, rfl, hA, q0, q1⟩ := HS.out.step HB c hcn
      have hcI : (c : Int) < n := by omega
      have hcc : (c : Int) ≤ cap := by omega
      have hc0 : (0 : Int) ≤ c := by omega
      have HSc : SpIn wr (some ⟨A, off, none⟩) c p := fun i hi => HS.out.step HB i (by omega)
      replace B0 := B0.step HB
      have hB1 := (Below.refl wr.heap.size wr).alloc (Nat.le_refl _) (.cells #[.int .i64 (p c).1, .int .i64 (p c).2] 51)
      have HBA := HB.alloc HB.size (.cells #[.int .i64 (p c).1, .int .i64 (p c).2] 51)
      have Bs := Blk.new wr [.int .i64 (p c).1, .int .i64 (p c).2] 51 rfl
      replace B0 := B0.step hB1
      replace HSc := HSc.step hB1
      have CO := fun w h => contains_any (some ⟨A, off, none⟩) c cap p (p c).1 (p c).2 (by omega) w h
      have KS : (fun w' : World => w'.cell? ⟨w.heap.size, 0, none⟩ = some (.slice (some ⟨A, off, none⟩) n cap) ∧ w'.cell? ⟨wr.heap.size, 0, none⟩ = some (.int .i64 (p c).1) ∧ w'.cell? ⟨wr.heap.size, 1, none⟩ = some (.int .i64 (p c).2)) (wr.alloc (.cells #[.int .i64 (p c).1, .int .i64 (p c).2] 51)) := ⟨B0.c 0 rfl, Bs.c 0 rfl, Bs.c 1 rfl⟩
      clear hB1 HB
      go_upto_region 4 with fail
      generalize wr.alloc (.cells #[.int .i64 (p c).1, .int .i64 (p c).2] 51) = W2 at *
      go_region_held3 (fun w' : World => w'.cell? ⟨w.heap.size, 0, none⟩ = some (.slice (some ⟨A, off, none⟩) n cap) ∧ w'.cell? ⟨wr.heap.size, 0, none⟩ = some (.int .i64 (p c).1) ∧ w'.cell? ⟨wr.heap.size, 1, none⟩ = some (.int .i64 (p c).2)) (first | (exact KS) | (exact KS'))
        (first
          | (go_at_call 133; refine (CO _ (by first | (with_reducible exact HSc) | (with_reducible exact HSc.drew))).mono ?_; rintro e w1 ⟨rfl, hB⟩; (first | (have KS' : (fun w' : World => w'.cell? ⟨w.heap.size, 0, none⟩ = some (.slice (some ⟨A, off, none⟩) n cap) ∧ w'.cell? ⟨wr.heap.size, 0, none⟩ = some (.int .i64 (p c).1) ∧ w'.cell? ⟨wr.heap.size, 1, none⟩ = some (.int .i64 (p c).2)) w1 := ⟨(B0.step hB).c 0 rfl, (Bs.step hB).c 0 rfl, (Bs.step hB).c 1 rfl⟩; have HBN := HBA.trans (hB.mono HBA.size)) | (have KS' : (fun w' : World => w'.cell? ⟨w.heap.size, 0, none⟩ = some (.slice (some ⟨A, off, none⟩) n cap) ∧ w'.cell? ⟨wr.heap.size, 0, none⟩ = some (.int .i64 (p c).1) ∧ w'.cell? ⟨wr.heap.size, 1, none⟩ = some (.int .i64 (p c).2)) w1 := ⟨(B0.drew.step hB).c 0 rfl, (Bs.drew.step hB).c 0 rfl, (Bs.drew.step hB).c 1 rfl⟩; have HBN := HBA.drew.trans (hB.mono HBA.drew.size))); clear hB))
      all_goals clear KS KS' CO HSc Bs B0 HBA hA q0 q1
      all_goals cases ham : amB c p (p c).1 (p c).2
      all_goals first
        | (have HN : Hid (∀ k, k < c → p c ≠ p k) := fun k hk e => by
             have := of_decide_eq_false ham
             exact this ⟨k, hk, by rw [e], by rw [e]⟩
           clear ham
           go_wp2
           go_roundw)
        | (have HO : Hid (decide (¬ OneN n p) = true) := decide_eq_true (fun h => by
             obtain ⟨k, hk, e1, e2⟩ := of_decide_eq_true ham
             exact h c hcn k hk (Prod.ext e1.symm e2.symm))
           have HBF := HB0.trans (HBN.mono HB0.size)
           clear ham
           go_wp2
           go_ret
           exact ⟨by rw [HO.out]; rfl, HBF⟩)
      case rel => exact ⟨c + 1, by omega, by go_num, fun j hj => by
        rcases Nat.lt_or_ge j c with h | h
        · exact HA.out j h
        · obtain rfl : j = c := by omega
          exact HN.out, HBN⟩
      case measure => simp [intOf]; omega
    · obtain rfl : c = n := by omega
      have HO : Hid (decide (¬ OneN c p) = false) := decide_eq_false (fun h => h HA.out)
      have HBF := HB0.trans (HB.mono HB0.size)
      clear HA HS B0
      go_wp2
      go_ret
      exact ⟨by rw [HO.out]; rfl, HBF⟩
end Go.Proofs.YteakhlipmmfilaaGreat
