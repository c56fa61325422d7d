/- Part 8 of the walks that the proof leans on. -/
import Derived.Test.YtpnnpkchogooaaaGreatPart7
import Derived.Test.YtpnnpkchogooaaaGreatPart4
import Derived.Test.YtpnnpkchogooaaaGreatPart3
import Derived.Test.YtpnnpkchogooaaaGreatPart1
import Derived.Test.YtpnnpkchogooaaaGreatRows
import Derived.ProofKit
import Derived.Lib.SmallJoins
import Derived.Deep.Strs
set_option maxRecDepth 100000
set_option maxHeartbeats 8000000
namespace Go.Proofs.YtpnnpkchogooaaaGreat
open Go.RowKit
def lw0 (z : Int) : Int := z % 18446744073709551616
def lw1 (z : Int) : Int := z / 18446744073709551616 % 18446744073709551616
def lw2 (z : Int) : Int := z / 18446744073709551616 / 18446744073709551616 % 18446744073709551616
def lw3 (z : Int) : Int := z / 18446744073709551616 / 18446744073709551616 / 18446744073709551616 % 18446744073709551616
def lw4 (z : Int) : Int := z / 18446744073709551616 / 18446744073709551616 / 18446744073709551616 / 18446744073709551616 % 18446744073709551616
def lw5 (z : Int) : Int := z / 18446744073709551616 / 18446744073709551616 / 18446744073709551616 / 18446744073709551616 / 18446744073709551616 % 18446744073709551616
def lw6 (z : Int) : Int := z / 18446744073709551616 / 18446744073709551616 / 18446744073709551616 / 18446744073709551616 / 18446744073709551616 / 18446744073709551616 % 18446744073709551616
def lw7 (z : Int) : Int := z / 18446744073709551616 / 18446744073709551616 / 18446744073709551616 / 18446744073709551616 / 18446744073709551616 / 18446744073709551616 / 18446744073709551616 % 18446744073709551616
abbrev LV (z : Int) : Value := L8 (lw0 z) (lw1 z) (lw2 z) (lw3 z) (lw4 z) (lw5 z) (lw6 z) (lw7 z)
def LR (z : Int) : Prop := -6703903964971298549787012499102923063739682910296196688861780721860882015036773488400937149083451713845015929093243025426876941405973284973216824503042048 ≤ z ∧ z < 6703903964971298549787012499102923063739682910296196688861780721860882015036773488400937149083451713845015929093243025426876941405973284973216824503042048
theorem lw_words (z : Int) : Words [lw0 z, lw1 z, lw2 z, lw3 z, lw4 z, lw5 z, lw6 z, lw7 z] := by
 have h : ∀ x : Int, Word (x % 18446744073709551616) := fun x => ⟨Int.emod_nonneg _ (by decide), Int.emod_lt_of_pos _ (by decide)⟩
 exact words_cons.2 ⟨h _, words_cons.2 ⟨h _, words_cons.2 ⟨h _, words_cons.2 ⟨h _, words_cons.2 ⟨h _, words_cons.2 ⟨h _, words_cons.2 ⟨h _, words_cons.2 ⟨h _, words_nil⟩⟩⟩⟩⟩⟩⟩⟩
theorem lw_sl {z : Int} (h : LR z) : sl (lw0 z) (lw1 z) (lw2 z) (lw3 z) (lw4 z) (lw5 z) (lw6 z) (lw7 z) = z := by
 unfold LR at h
 unfold sl
 simp only [val64]
 unfold lw0 lw1 lw2 lw3 lw4 lw5 lw6 lw7
 have e0 : z = 18446744073709551616 * (z / 18446744073709551616) + z % 18446744073709551616 := by omega
 have k0 := Int.emod_nonneg z (show (18446744073709551616 : Int) ≠ 0 by decide)
 have l0 := Int.emod_lt_of_pos z (show (0 : Int) < 18446744073709551616 by decide)
 generalize z % 18446744073709551616 = r0 at *
 generalize z / 18446744073709551616 = z1 at *
 have e1 : z1 = 18446744073709551616 * (z1 / 18446744073709551616) + z1 % 18446744073709551616 := by omega
 have k1 := Int.emod_nonneg z1 (show (18446744073709551616 : Int) ≠ 0 by decide)
 have l1 := Int.emod_lt_of_pos z1 (show (0 : Int) < 18446744073709551616 by decide)
 generalize z1 % 18446744073709551616 = r1 at *
 generalize z1 / 18446744073709551616 = z2 at *
 have e2 : z2 = 18446744073709551616 * (z2 / 18446744073709551616) + z2 % 18446744073709551616 := by omega
 have k2 := Int.emod_nonneg z2 (show (18446744073709551616 : Int) ≠ 0 by decide)
 have l2 := Int.emod_lt_of_pos z2 (show (0 : Int) < 18446744073709551616 by decide)
 generalize z2 % 18446744073709551616 = r2 at *
 generalize z2 / 18446744073709551616 = z3 at *
 have e3 : z3 = 18446744073709551616 * (z3 / 18446744073709551616) + z3 % 18446744073709551616 := by omega
 have k3 := Int.emod_nonneg z3 (show (18446744073709551616 : Int) ≠ 0 by decide)
 have l3 := Int.emod_lt_of_pos z3 (show (0 : Int) < 18446744073709551616 by decide)
 generalize z3 % 18446744073709551616 = r3 at *
 generalize z3 / 18446744073709551616 = z4 at *
 have e4 : z4 = 18446744073709551616 * (z4 / 18446744073709551616) + z4 % 18446744073709551616 := by omega
 have k4 := Int.emod_nonneg z4 (show (18446744073709551616 : Int) ≠ 0 by decide)
 have l4 := Int.emod_lt_of_pos z4 (show (0 : Int) < 18446744073709551616 by decide)
 generalize z4 % 18446744073709551616 = r4 at *
 generalize z4 / 18446744073709551616 = z5 at *
 have e5 : z5 = 18446744073709551616 * (z5 / 18446744073709551616) + z5 % 18446744073709551616 := by omega
 have k5 := Int.emod_nonneg z5 (show (18446744073709551616 : Int) ≠ 0 by decide)
 have l5 := Int.emod_lt_of_pos z5 (show (0 : Int) < 18446744073709551616 by decide)
 generalize z5 % 18446744073709551616 = r5 at *
 generalize z5 / 18446744073709551616 = z6 at *
 have e6 : z6 = 18446744073709551616 * (z6 / 18446744073709551616) + z6 % 18446744073709551616 := by omega
 have k6 := Int.emod_nonneg z6 (show (18446744073709551616 : Int) ≠ 0 by decide)
 have l6 := Int.emod_lt_of_pos z6 (show (0 : Int) < 18446744073709551616 by decide)
 generalize z6 % 18446744073709551616 = r6 at *
 generalize z6 / 18446744073709551616 = z7 at *
 have e7 : z7 = 18446744073709551616 * (z7 / 18446744073709551616) + z7 % 18446744073709551616 := by omega
 have k7 := Int.emod_nonneg z7 (show (18446744073709551616 : Int) ≠ 0 by decide)
 have l7 := Int.emod_lt_of_pos z7 (show (0 : Int) < 18446744073709551616 by decide)
 generalize z7 % 18446744073709551616 = r7 at *
 generalize z7 / 18446744073709551616 = z8 at *
 split <;> omega
theorem sl_lr {z0 z1 z2 z3 z4 z5 z6 z7 : Int} (wz : Words [z0, z1, z2, z3, z4, z5, z6, z7]) : LR (sl z0 z1 z2 z3 z4 z5 z6 z7) := by
 obtain ⟨u1, u2, u3⟩ := sl_top wz
 unfold LR sl
 split <;> omega
theorem lv_of {z0 z1 z2 z3 z4 z5 z6 z7 z : Int} (wz : Words [z0, z1, z2, z3, z4, z5, z6, z7]) (h : sl z0 z1 z2 z3 z4 z5 z6 z7 = z) : L8 z0 z1 z2 z3 z4 z5 z6 z7 = LV z := by
 subst h
 have e := sl_inj wz (lw_words _) (lw_sl (sl_lr wz)).symm
 simp only [List.cons.injEq] at e
 obtain ⟨e0, e1, e2, e3, e4, e5, e6, e7, -⟩ := e
 unfold LV
 rw [← e0, ← e1, ← e2, ← e3, ← e4, ← e5, ← e6, ← e7]
theorem times_lv {z : Int} {w w' : World} {e : Ending} (h : TimesP z w e w') : VP (LV z) w e w' := by
 obtain ⟨z0, z1, z2, z3, z4, z5, z6, z7, rfl, wz, hz, hB⟩ := h
 exact ⟨by rw [lv_of wz hz], hB⟩
theorem aggP_lv {z : Int} (hz : z < 6703903964971298549787012499102923063739682910296196688861780721860882015036773488400937149083451713845015929093243025426876941405973284973216824503042048) {w w' : World} {e : Ending} (h : AggP 8 z w e w') : VP (LV z) w e w' := by
 obtain ⟨zs, rfl, hl, hw, hv, hB⟩ := h
 obtain ⟨z0, z1, z2, z3, z4, z5, z6, z7, rfl⟩ := list8' hl
 exact ⟨congrArg Ending.returned (lv_of hw ((sl_of_val hw (by omega)).trans hv)), hB⟩
theorem ww_words (z : Int) : Word (ww3 z) ∧ Word (ww2 z) ∧ Word (ww1 z) ∧ Word (ww0 z) := by
 have h : ∀ x : Int, Word (x % 18446744073709551616) := fun x => ⟨Int.emod_nonneg _ (by decide), Int.emod_lt_of_pos _ (by decide)⟩
 exact ⟨h _, h _, h _, h _⟩
theorem ww_sw {z : Int} (h : told z = true) : sw (ww3 z) (ww2 z) (ww1 z) (ww0 z) = z := by
 unfold told at h
 rw [decide_eq_true_iff] at h
 unfold sw uw ww3 ww2 ww1 ww0
 split <;> omega
theorem lw_val {z : Int} (h0 : 0 ≤ z) (h : z < 6703903964971298549787012499102923063739682910296196688861780721860882015036773488400937149083451713845015929093243025426876941405973284973216824503042048) : val64 [lw0 z, lw1 z, lw2 z, lw3 z, lw4 z, lw5 z, lw6 z, lw7 z] = z := by
 have e := lw_sl (z := z) ⟨by omega, h⟩
 obtain ⟨u1, u2, u3⟩ := sl_top (lw_words z)
 unfold sl at e
 split at e <;> omega
theorem times_det (x y : Int) (hx : told x = true) (hy : told y = true) (w : World) : Calls Tryz.prog 33 #[W4 x, W4 y] w (VP (LV (x * y)) w) := by
 obtain ⟨p3, p2, p1, p0⟩ := ww_words x
 obtain ⟨q3, q2, q1, q0⟩ := ww_words y
 have h := times_any (ww3 x) (ww2 x) (ww1 x) (ww0 x) (ww3 y) (ww2 y) (ww1 y) (ww0 y) p3 p2 p1 p0 q3 q2 q1 q0 w
 rw [ww_sw hx, ww_sw hy] at h
 exact h.mono fun e w' h => times_lv h
theorem minus_det (x y : Int) (hx : LR x) (hy : LR y) (hz : LR (x - y)) (w : World) : Calls Tryz.prog 73 #[LV x, LV y] w (VP (LV (x - y)) w) :=
 (minusL_any (lw0 x) (lw1 x) (lw2 x) (lw3 x) (lw4 x) (lw5 x) (lw6 x) (lw7 x) (lw0 y) (lw1 y) (lw2 y) (lw3 y) (lw4 y) (lw5 y) (lw6 y) (lw7 y) (lw_words x) (lw_words y) (x - y) (by rw [lw_sl hx, lw_sl hy]) hz w).mono fun e w' h => times_lv h
theorem plus_det (x y : Int) (hx : LR x) (hy : LR y) (hz : LR (x + y)) (w : World) : Calls Tryz.prog 43 #[LV x, LV y] w (VP (LV (x + y)) w) :=
 (plusS_any (lw0 x) (lw1 x) (lw2 x) (lw3 x) (lw4 x) (lw5 x) (lw6 x) (lw7 x) (lw0 y) (lw1 y) (lw2 y) (lw3 y) (lw4 y) (lw5 y) (lw6 y) (lw7 y) (lw_words x) (lw_words y) (x + y) (by rw [lw_sl hx, lw_sl hy]) hz w).mono fun e w' h => times_lv h
theorem signL_det (x : Int) (hx : LR x) (w : World) : Calls Tryz.prog 80 #[LV x] w (VP (.int .i64 (cmpI x 0)) w) := by
 have h := signL_any (lw0 x) (lw1 x) (lw2 x) (lw3 x) (lw4 x) (lw5 x) (lw6 x) (lw7 x) (lw_words x) w
 rw [lw_sl hx] at h
 exact h
theorem tellW_det (x : Int) (hx : LR x) (w : World) : Calls Tryz.prog 59 #[LV x] w (VP (tellV x) w) := tellWide_det (lw0 x) (lw1 x) (lw2 x) (lw3 x) (lw4 x) (lw5 x) (lw6 x) (lw7 x) (lw_words x) x (lw_sl hx) w
theorem sign_det (x : Int) (hx : told x = true) (w : World) : Calls Tryz.prog 15 #[W4 x] w (VP (.int .i64 (cmpI x 0)) w) := by
 obtain ⟨p3, p2, p1, p0⟩ := ww_words x
 have h := implSign_any (ww3 x) (ww2 x) (ww1 x) (ww0 x) p3 p2 p1 p0 w
 rw [ww_sw hx] at h
 exact h
theorem bitsW_det (x : Int) (hx : told x = true) (w : World) : Calls Tryz.prog 110 #[W4 x] w (BitsP (x.natAbs : Int) w) := by
 obtain ⟨p3, p2, p1, p0⟩ := ww_words x
 have h := implBits_any (ww3 x) (ww2 x) (ww1 x) (ww0 x) p3 p2 p1 p0 w
 rw [ww_sw hx] at h
 exact h
theorem told_lr {x : Int} (h : told x = true) : LR x := by
 unfold told at h
 rw [decide_eq_true_iff] at h
 unfold LR
 omega
theorem longOf_det (x : Int) (hx : told x = true) (w : World) : Calls Tryz.prog 58 #[W4 x] w (VP (LV x) w) := by
 obtain ⟨p3, p2, p1, p0⟩ := ww_words x
 have h := longOf_any (ww3 x) (ww2 x) (ww1 x) (ww0 x) p3 w
 refine h.mono ?_
 rintro e w' ⟨rfl, hB⟩
 exact ⟨congrArg Ending.returned (lv_of (words_fill p3 p2 p1 p0) ((sl_fill _ _ _ _).trans (ww_sw hx))), hB⟩
theorem size_det (x : Int) (hx : LR x) (hx' : (x.natAbs : Int) < 6703903964971298549787012499102923063739682910296196688861780721860882015036773488400937149083451713845015929093243025426876941405973284973216824503042048) (w : World) : Calls Tryz.prog 76 #[LV x] w (VP (LV (x.natAbs : Int)) w) := by
 have h := sizeL_any (lw0 x) (lw1 x) (lw2 x) (lw3 x) (lw4 x) (lw5 x) (lw6 x) (lw7 x) (lw_words x) w
 rw [lw_sl hx] at h
 exact h.mono fun e w' h => aggP_lv hx' h
theorem gcd_det (x y : Int) (hx : 0 ≤ x ∧ x < 6703903964971298549787012499102923063739682910296196688861780721860882015036773488400937149083451713845015929093243025426876941405973284973216824503042048) (hy : 0 ≤ y ∧ y < 6703903964971298549787012499102923063739682910296196688861780721860882015036773488400937149083451713845015929093243025426876941405973284973216824503042048) (hg : ((Int.gcd x y : Nat) : Int) < 6703903964971298549787012499102923063739682910296196688861780721860882015036773488400937149083451713845015929093243025426876941405973284973216824503042048) (w : World) : Calls Tryz.prog 75 #[LV x, LV y] w (VP (LV (Int.gcd x y : Int)) w) := by
 have h := gcdL_any [lw0 x, lw1 x, lw2 x, lw3 x, lw4 x, lw5 x, lw6 x, lw7 x] [lw0 y, lw1 y, lw2 y, lw3 y, lw4 y, lw5 y, lw6 y, lw7 y] rfl rfl (lw_words x) (lw_words y) w
 rw [lw_val hx.1 hx.2, lw_val hy.1 hy.2] at h
 exact h.mono fun e w' h => aggP_lv hg h
theorem share_det (x y : Int) (b : Bool) (hx : -6703903964971298549787012499102923063739682910296196688861780721860882015036773488400937149083451713845015929093243025426876941405973284973216824503042048 < x ∧ x < 6703903964971298549787012499102923063739682910296196688861780721860882015036773488400937149083451713845015929093243025426876941405973284973216824503042048) (hy : 0 < y ∧ y < 6703903964971298549787012499102923063739682910296196688861780721860882015036773488400937149083451713845015929093243025426876941405973284973216824503042048) (w : World) : Calls Tryz.prog 72 #[LV x, LV y, .bool b] w (VP (tellV (shareZ x y b)) w) := by
 have h := share_any (lw0 x) (lw1 x) (lw2 x) (lw3 x) (lw4 x) (lw5 x) (lw6 x) (lw7 x) (lw0 y) (lw1 y) (lw2 y) (lw3 y) (lw4 y) (lw5 y) (lw6 y) (lw7 y) b (lw_words x) (lw_words y) (by rw [lw_val (by omega) hy.2]; exact hy.1) (by rw [lw_sl ⟨by omega, hx.2⟩]; exact hx.1) w
 rw [lw_sl ⟨by omega, hx.2⟩, lw_val (by omega) hy.2] at h
 exact h
theorem ar1 (a : List Value) (T : TypeId) (w : World) : ArgsB w (w.alloc (.cells a.toArray T)) [a] := by
 refine ⟨(Below.refl _ _).alloc (Nat.le_refl _) _, fun j vs hj => ?_⟩
 match j, hj with
 | 0, hj => cases hj; exact Blk.new w a T rfl
 | j + 1, hj => simp at hj
theorem ArgsB.more {w W : World} {vss : List (List Value)} (h : ArgsB w W vss) (hl : W.heap.size = w.heap.size + vss.length) (b : List Value) (T : TypeId) : ArgsB w (W.alloc (.cells b.toArray T)) (vss ++ [b]) := by
 refine ⟨(h.alloc _).below, fun j vs hj => ?_⟩
 rcases Nat.lt_trichotomy j vss.length with hlt | rfl | hgt
 · rw [List.getElem?_append_left hlt] at hj
   exact (h.b j hj).alloc _
 · simp at hj
   subst hj
   exact Blk.new W b T hl.symm
 · rw [List.getElem?_eq_none (by simp; omega)] at hj
   cases hj
theorem ArgsB.left {w W : World} {us vs : List (List Value)} (h : ArgsB w W (us ++ vs)) : ArgsB w W us := by
 refine ⟨h.below, fun j xs hj => h.b j ?_⟩
 rw [List.getElem?_append_left]
 · exact hj
 · rcases Nat.lt_or_ge j us.length with h | h
   · exact h
   · rw [List.getElem?_eq_none h] at hj; cases hj
theorem ar2 (a b : List Value) (T U : TypeId) (w : World) : ArgsB w ((w.alloc (.cells a.toArray T)).alloc (.cells b.toArray U)) [a, b] := (ar1 a T w).more (by simp) b U
theorem ar3 (a b c : List Value) (T U V : TypeId) (w : World) : ArgsB w (((w.alloc (.cells a.toArray T)).alloc (.cells b.toArray U)).alloc (.cells c.toArray V)) [a, b, c] := (ar2 a b T U w).more (by simp) c V
theorem ar4 (a b c d : List Value) (T U V X : TypeId) (w : World) : ArgsB w ((((w.alloc (.cells a.toArray T)).alloc (.cells b.toArray U)).alloc (.cells c.toArray V)).alloc (.cells d.toArray X)) [a, b, c, d] := (ar3 a b c T U V w).more (by simp) d X
theorem ar5 (a b c d f : List Value) (T U V X Y : TypeId) (w : World) : ArgsB w (((((w.alloc (.cells a.toArray T)).alloc (.cells b.toArray U)).alloc (.cells c.toArray V)).alloc (.cells d.toArray X)).alloc (.cells f.toArray Y)) [a, b, c, d, f] := (ar4 a b c d T U V X w).more (by simp) f Y
theorem below_set4 {B g : Nat} {w W : World} {v0 v1 v2 v3 : Value} (hg : B ≤ g) (h : Below B w W) : Below B w ((((W.setCell ⟨g, 0, none⟩ v0).setCell ⟨g, 1, none⟩ v1).setCell ⟨g, 2, none⟩ v2).setCell ⟨g, 3, none⟩ v3) := (((h.setCell (by exact hg) _).setCell (by exact hg) _).setCell (by exact hg) _).setCell (by exact hg) _
theorem told_abs {z : Int} (h : told z = true) : (z.natAbs : Int) ≤ 57896044618658097711785492504343953926634992332820282019728792003956564819968 := by
 unfold told at h
 rw [decide_eq_true_iff] at h
 omega
theorem gcd_le (a b m : Nat) (ha : a ≤ m) (hb : b ≤ m) : Int.gcd (a : Int) (b : Int) ≤ m := by
 rw [Int.gcd_natCast_natCast]
 by_cases h : a = 0
 · subst h; simpa using hb
 · exact Nat.le_trans (Nat.le_of_dvd (by omega) (Nat.gcd_dvd_left _ _)) ha
theorem toldI_det (x : Int) (hx : told x = true) (w : World) : Calls Tryz.prog 32 #[LV x] w (VP (W4 x) w) := by
 have T0 : ArgsB w ((w.alloc (.cells #[.int .u64 (lw0 x), .int .u64 (lw1 x), .int .u64 (lw2 x), .int .u64 (lw3 x), .int .u64 (lw4 x), .int .u64 (lw5 x), .int .u64 (lw6 x), .int .u64 (lw7 x)] 68)).alloc (.cells #[.int .u64 0, .int .u64 0, .int .u64 0, .int .u64 0] 32)) [[.int .u64 (lw0 x), .int .u64 (lw1 x), .int .u64 (lw2 x), .int .u64 (lw3 x), .int .u64 (lw4 x), .int .u64 (lw5 x), .int .u64 (lw6 x), .int .u64 (lw7 x)], [.int .u64 0, .int .u64 0, .int .u64 0, .int .u64 0]] := ar2 _ _ _ _ w
 have TL := tellW_det x (told_lr hx)
 rw [show tellV x = .tuple #[W4 x, .bool true] from if_pos hx] at TL
 go_enter Tryz.func32, Tryz.ntmps32
 go_wp2_with fail
 refine (TL _).mono ?_
 rintro e w1 ⟨rfl, hB⟩
 replace T0 := T0.step hB
 clear hB
 go_upto_region 2 with fail
 have A0 : Blk (w1.alloc (.cells #[.int .u64 (ww3 x), .int .u64 (ww2 x), .int .u64 (ww1 x), .int .u64 (ww0 x)] 32)) w1.heap.size [.int .u64 (ww3 x), .int .u64 (ww2 x), .int .u64 (ww1 x), .int .u64 (ww0 x)] := Blk.new w1 _ _ rfl
 have hlt := (T0.b 1 rfl).lt
 replace T0 := T0.alloc (.cells #[.int .u64 (ww3 x), .int .u64 (ww2 x), .int .u64 (ww1 x), .int .u64 (ww0 x)] 32)
 generalize w1.alloc (.cells #[.int .u64 (ww3 x), .int .u64 (ww2 x), .int .u64 (ww1 x), .int .u64 (ww0 x)] 32) = W1 at *
 generalize w1.heap.size = ga at *
 have rc0 := (T0.b 1 rfl).c 0 rfl; have rf0 := (T0.b 1 rfl).f 0 rfl; have rc1 := (T0.b 1 rfl).c 1 rfl; have rf1 := (T0.b 1 rfl).f 1 rfl; have rc2 := (T0.b 1 rfl).c 2 rfl; have rf2 := (T0.b 1 rfl).f 2 rfl; have rc3 := (T0.b 1 rfl).c 3 rfl; have rf3 := (T0.b 1 rfl).f 3 rfl; have rl := (T0.b 1 rfl).lt
 obtain ⟨ac0, ac1, ac2, ac3⟩ := A0.cs4; have al := A0.lt
 have HB := T0.below
 clear T0 TL A0
 go_wp2
 refine bodyPost_ret (v := W4 x) (by simp [results, Tryz.results32, go_sem, rc0, rc1, rc2, rc3]) rfl ?_
 exact ⟨rfl, by first | exact below_set4 (g := w.heap.size + 1) (by omega) HB | exact (below_set4 (g := w.heap.size + 1) (by omega) HB).drew⟩
theorem minor_cells {a b c d : Int} {w W : World} (T0 : ArgsB w W [[.int .u64 (ww3 a), .int .u64 (ww2 a), .int .u64 (ww1 a), .int .u64 (ww0 a)], [.int .u64 (ww3 b), .int .u64 (ww2 b), .int .u64 (ww1 b), .int .u64 (ww0 b)], [.int .u64 (ww3 c), .int .u64 (ww2 c), .int .u64 (ww1 c), .int .u64 (ww0 c)], [.int .u64 (ww3 d), .int .u64 (ww2 d), .int .u64 (ww1 d), .int .u64 (ww0 d)]]) : (fun w' => w'.cell? ⟨w.heap.size, 0, none⟩ = some (.int .u64 (ww3 a)) ∧ w'.cell? ⟨w.heap.size, 1, none⟩ = some (.int .u64 (ww2 a)) ∧ w'.cell? ⟨w.heap.size, 2, none⟩ = some (.int .u64 (ww1 a)) ∧ w'.cell? ⟨w.heap.size, 3, none⟩ = some (.int .u64 (ww0 a)) ∧ w'.cell? ⟨w.heap.size + 1, 0, none⟩ = some (.int .u64 (ww3 b)) ∧ w'.cell? ⟨w.heap.size + 1, 1, none⟩ = some (.int .u64 (ww2 b)) ∧ w'.cell? ⟨w.heap.size + 1, 2, none⟩ = some (.int .u64 (ww1 b)) ∧ w'.cell? ⟨w.heap.size + 1, 3, none⟩ = some (.int .u64 (ww0 b)) ∧ w'.cell? ⟨w.heap.size + 2, 0, none⟩ = some (.int .u64 (ww3 c)) ∧ w'.cell? ⟨w.heap.size + 2, 1, none⟩ = some (.int .u64 (ww2 c)) ∧ w'.cell? ⟨w.heap.size + 2, 2, none⟩ = some (.int .u64 (ww1 c)) ∧ w'.cell? ⟨w.heap.size + 2, 3, none⟩ = some (.int .u64 (ww0 c)) ∧ w'.cell? ⟨w.heap.size + 3, 0, none⟩ = some (.int .u64 (ww3 d)) ∧ w'.cell? ⟨w.heap.size + 3, 1, none⟩ = some (.int .u64 (ww2 d)) ∧ w'.cell? ⟨w.heap.size + 3, 2, none⟩ = some (.int .u64 (ww1 d)) ∧ w'.cell? ⟨w.heap.size + 3, 3, none⟩ = some (.int .u64 (ww0 d))) W := ⟨(T0.b 0 rfl).c 0 rfl, (T0.b 0 rfl).c 1 rfl, (T0.b 0 rfl).c 2 rfl, (T0.b 0 rfl).c 3 rfl, (T0.b 1 rfl).c 0 rfl, (T0.b 1 rfl).c 1 rfl, (T0.b 1 rfl).c 2 rfl, (T0.b 1 rfl).c 3 rfl, (T0.b 2 rfl).c 0 rfl, (T0.b 2 rfl).c 1 rfl, (T0.b 2 rfl).c 2 rfl, (T0.b 2 rfl).c 3 rfl, (T0.b 3 rfl).c 0 rfl, (T0.b 3 rfl).c 1 rfl, (T0.b 3 rfl).c 2 rfl, (T0.b 3 rfl).c 3 rfl⟩
theorem minor_det (a b c d : Int) (ha : told a = true) (hb : told b = true) (hc : told c = true) (hd : told d = true) (h1 : LR (a * d)) (h2 : LR (b * c)) (h3 : told (a * d - b * c) = true) (w : World) : Calls Tryz.prog 42 #[W4 a, W4 b, W4 c, W4 d] w (VP (W4 (a * d - b * c)) w) := by
 have T5 : ArgsB w (((((w.alloc (.cells #[.int .u64 (ww3 a), .int .u64 (ww2 a), .int .u64 (ww1 a), .int .u64 (ww0 a)] 32)).alloc (.cells #[.int .u64 (ww3 b), .int .u64 (ww2 b), .int .u64 (ww1 b), .int .u64 (ww0 b)] 32)).alloc (.cells #[.int .u64 (ww3 c), .int .u64 (ww2 c), .int .u64 (ww1 c), .int .u64 (ww0 c)] 32)).alloc (.cells #[.int .u64 (ww3 d), .int .u64 (ww2 d), .int .u64 (ww1 d), .int .u64 (ww0 d)] 32)).alloc (.cells #[.int .u64 0, .int .u64 0, .int .u64 0, .int .u64 0] 32)) [[.int .u64 (ww3 a), .int .u64 (ww2 a), .int .u64 (ww1 a), .int .u64 (ww0 a)], [.int .u64 (ww3 b), .int .u64 (ww2 b), .int .u64 (ww1 b), .int .u64 (ww0 b)], [.int .u64 (ww3 c), .int .u64 (ww2 c), .int .u64 (ww1 c), .int .u64 (ww0 c)], [.int .u64 (ww3 d), .int .u64 (ww2 d), .int .u64 (ww1 d), .int .u64 (ww0 d)], [.int .u64 0, .int .u64 0, .int .u64 0, .int .u64 0]] := ar5 _ _ _ _ _ _ _ _ _ _ w
 have R0 := T5.b 4 rfl
 have T0 : ArgsB w _ [[.int .u64 (ww3 a), .int .u64 (ww2 a), .int .u64 (ww1 a), .int .u64 (ww0 a)], [.int .u64 (ww3 b), .int .u64 (ww2 b), .int .u64 (ww1 b), .int .u64 (ww0 b)], [.int .u64 (ww3 c), .int .u64 (ww2 c), .int .u64 (ww1 c), .int .u64 (ww0 c)], [.int .u64 (ww3 d), .int .u64 (ww2 d), .int .u64 (ww1 d), .int .u64 (ww0 d)]] := T5.left (vs := [[.int .u64 0, .int .u64 0, .int .u64 0, .int .u64 0]])
 clear T5
 have C1 := times_det a d ha hd
 have C2 := times_det b c hb hc
 have C3 := minus_det (a * d) (b * c) h1 h2 (told_lr h3)
 have C4 := toldI_det (a * d - b * c) h3
 clear ha hb hc hd h1 h2 h3
 generalize hp : a * d = p at *
 generalize hq : b * c = q at *
 generalize hr : p - q = r at *
 clear hp hq hr
 have tok1 : True := trivial
 go_enter Tryz.func42, Tryz.ntmps42
 go_upto_region 1 with fail
 generalize (((((w.alloc (.cells #[.int .u64 (ww3 a), .int .u64 (ww2 a), .int .u64 (ww1 a), .int .u64 (ww0 a)] 32)).alloc (.cells #[.int .u64 (ww3 b), .int .u64 (ww2 b), .int .u64 (ww1 b), .int .u64 (ww0 b)] 32)).alloc (.cells #[.int .u64 (ww3 c), .int .u64 (ww2 c), .int .u64 (ww1 c), .int .u64 (ww0 c)] 32)).alloc (.cells #[.int .u64 (ww3 d), .int .u64 (ww2 d), .int .u64 (ww1 d), .int .u64 (ww0 d)] 32)).alloc (.cells #[.int .u64 0, .int .u64 0, .int .u64 0, .int .u64 0] 32)) = W at *
 go_region_held3 (fun w' => w'.cell? ⟨w.heap.size, 0, none⟩ = some (.int .u64 (ww3 a)) ∧ w'.cell? ⟨w.heap.size, 1, none⟩ = some (.int .u64 (ww2 a)) ∧ w'.cell? ⟨w.heap.size, 2, none⟩ = some (.int .u64 (ww1 a)) ∧ w'.cell? ⟨w.heap.size, 3, none⟩ = some (.int .u64 (ww0 a)) ∧ w'.cell? ⟨w.heap.size + 1, 0, none⟩ = some (.int .u64 (ww3 b)) ∧ w'.cell? ⟨w.heap.size + 1, 1, none⟩ = some (.int .u64 (ww2 b)) ∧ w'.cell? ⟨w.heap.size + 1, 2, none⟩ = some (.int .u64 (ww1 b)) ∧ w'.cell? ⟨w.heap.size + 1, 3, none⟩ = some (.int .u64 (ww0 b)) ∧ w'.cell? ⟨w.heap.size + 2, 0, none⟩ = some (.int .u64 (ww3 c)) ∧ w'.cell? ⟨w.heap.size + 2, 1, none⟩ = some (.int .u64 (ww2 c)) ∧ w'.cell? ⟨w.heap.size + 2, 2, none⟩ = some (.int .u64 (ww1 c)) ∧ w'.cell? ⟨w.heap.size + 2, 3, none⟩ = some (.int .u64 (ww0 c)) ∧ w'.cell? ⟨w.heap.size + 3, 0, none⟩ = some (.int .u64 (ww3 d)) ∧ w'.cell? ⟨w.heap.size + 3, 1, none⟩ = some (.int .u64 (ww2 d)) ∧ w'.cell? ⟨w.heap.size + 3, 2, none⟩ = some (.int .u64 (ww1 d)) ∧ w'.cell? ⟨w.heap.size + 3, 3, none⟩ = some (.int .u64 (ww0 d))) ((refine minor_cells ?_ <;> repeat (first | (with_reducible exact T0) | (with_reducible refine ArgsB.drew ?_) | (with_reducible refine ArgsB.set4g ?_ (by simp; try omega) _ _ _ _))))
   (first
     | (go_at_call 33; have _t := tok1; refine (C1 _).mono ?_; rintro e w1 ⟨rfl, hB⟩; (first | (have T1 : ArgsB w w1 _ := (by with_reducible exact T0.step hB); have tltw1 := (T0.b 3 rfl).lt; have lR0w1 := R0.lt; replace R0 := R0.step hB; skip) | (have T1 : ArgsB w w1 _ := (by with_reducible exact T0.drew.step hB); have tltw1 := (T0.b 3 rfl).lt; have lR0w1 := R0.lt; replace R0 := R0.drew.step hB; skip)); clear T0; have T0 := T1; clear T1; clear hB; clear tok1 _t)
     | (go_at_call 33; refine (C2 _).mono ?_; rintro e w2 ⟨rfl, hB⟩; (first | (have T1 : ArgsB w w2 _ := (by with_reducible exact T0.step hB); have tltw2 := (T0.b 3 rfl).lt; have lR0w2 := R0.lt; replace R0 := R0.step hB; skip) | (have T1 : ArgsB w w2 _ := (by with_reducible exact T0.drew.step hB); have tltw2 := (T0.b 3 rfl).lt; have lR0w2 := R0.lt; replace R0 := R0.drew.step hB; skip)); clear T0; have T0 := T1; clear T1; clear hB)
     | (go_at_call 73; refine (C3 _).mono ?_; rintro e w3 ⟨rfl, hB⟩; (first | (have T1 : ArgsB w w3 _ := (by with_reducible exact T0.step hB); have tltw3 := (T0.b 3 rfl).lt; have lR0w3 := R0.lt; replace R0 := R0.step hB; skip) | (have T1 : ArgsB w w3 _ := (by with_reducible exact T0.drew.step hB); have tltw3 := (T0.b 3 rfl).lt; have lR0w3 := R0.lt; replace R0 := R0.drew.step hB; skip)); clear T0; have T0 := T1; clear T1; clear hB)
     | (go_at_call 32; refine (C4 _).mono ?_; rintro e w4 ⟨rfl, hB⟩; (first | (have T1 : ArgsB w w4 _ := (by with_reducible exact T0.step hB); have tltw4 := (T0.b 3 rfl).lt; have lR0w4 := R0.lt; replace R0 := R0.step hB; skip) | (have T1 : ArgsB w w4 _ := (by with_reducible exact T0.drew.step hB); have tltw4 := (T0.b 3 rfl).lt; have lR0w4 := R0.lt; replace R0 := R0.drew.step hB; skip)); clear T0; have T0 := T1; clear T1; clear hB; obtain ⟨rc0, rf0, rc1, rf1, rc2, rf2, rc3, rf3⟩ := R0.cf4; have rl := R0.lt))
 all_goals have HB := T0.below
 all_goals clear T0 R0
 all_goals go_wp2
 all_goals refine bodyPost_ret (v := W4 r) (by simp [results, Tryz.results42, go_sem, rc0, rc1, rc2, rc3]) rfl ?_
 all_goals exact ⟨rfl, by first | exact below_set4 (g := w.heap.size + 4) (by omega) HB | exact (below_set4 (g := w.heap.size + 4) (by omega) HB).drew⟩
theorem joint_cells {a b c d : Int} {w W : World} (T0 : ArgsB w W [[.int .u64 (ww3 a), .int .u64 (ww2 a), .int .u64 (ww1 a), .int .u64 (ww0 a)], [.int .u64 (ww3 b), .int .u64 (ww2 b), .int .u64 (ww1 b), .int .u64 (ww0 b)], [.int .u64 (ww3 c), .int .u64 (ww2 c), .int .u64 (ww1 c), .int .u64 (ww0 c)], [.int .u64 (ww3 d), .int .u64 (ww2 d), .int .u64 (ww1 d), .int .u64 (ww0 d)]]) : (fun w' => w'.cell? ⟨w.heap.size, 0, none⟩ = some (.int .u64 (ww3 a)) ∧ w'.cell? ⟨w.heap.size, 1, none⟩ = some (.int .u64 (ww2 a)) ∧ w'.cell? ⟨w.heap.size, 2, none⟩ = some (.int .u64 (ww1 a)) ∧ w'.cell? ⟨w.heap.size, 3, none⟩ = some (.int .u64 (ww0 a)) ∧ w'.cell? ⟨w.heap.size + 1, 0, none⟩ = some (.int .u64 (ww3 b)) ∧ w'.cell? ⟨w.heap.size + 1, 1, none⟩ = some (.int .u64 (ww2 b)) ∧ w'.cell? ⟨w.heap.size + 1, 2, none⟩ = some (.int .u64 (ww1 b)) ∧ w'.cell? ⟨w.heap.size + 1, 3, none⟩ = some (.int .u64 (ww0 b)) ∧ w'.cell? ⟨w.heap.size + 2, 0, none⟩ = some (.int .u64 (ww3 c)) ∧ w'.cell? ⟨w.heap.size + 2, 1, none⟩ = some (.int .u64 (ww2 c)) ∧ w'.cell? ⟨w.heap.size + 2, 2, none⟩ = some (.int .u64 (ww1 c)) ∧ w'.cell? ⟨w.heap.size + 2, 3, none⟩ = some (.int .u64 (ww0 c)) ∧ w'.cell? ⟨w.heap.size + 3, 0, none⟩ = some (.int .u64 (ww3 d)) ∧ w'.cell? ⟨w.heap.size + 3, 1, none⟩ = some (.int .u64 (ww2 d)) ∧ w'.cell? ⟨w.heap.size + 3, 2, none⟩ = some (.int .u64 (ww1 d)) ∧ w'.cell? ⟨w.heap.size + 3, 3, none⟩ = some (.int .u64 (ww0 d))) W := ⟨(T0.b 0 rfl).c 0 rfl, (T0.b 0 rfl).c 1 rfl, (T0.b 0 rfl).c 2 rfl, (T0.b 0 rfl).c 3 rfl, (T0.b 1 rfl).c 0 rfl, (T0.b 1 rfl).c 1 rfl, (T0.b 1 rfl).c 2 rfl, (T0.b 1 rfl).c 3 rfl, (T0.b 2 rfl).c 0 rfl, (T0.b 2 rfl).c 1 rfl, (T0.b 2 rfl).c 2 rfl, (T0.b 2 rfl).c 3 rfl, (T0.b 3 rfl).c 0 rfl, (T0.b 3 rfl).c 1 rfl, (T0.b 3 rfl).c 2 rfl, (T0.b 3 rfl).c 3 rfl⟩
theorem joint_det (a b c d : Int) (ha : told a = true) (hb : told b = true) (hc : told c = true) (hd : told d = true) (h1 : LR (a * d)) (h2 : LR (b * c)) (h3 : told (a * d + b * c) = true) (w : World) : Calls Tryz.prog 40 #[W4 a, W4 b, W4 c, W4 d] w (VP (W4 (a * d + b * c)) w) := by
 have T5 : ArgsB w (((((w.alloc (.cells #[.int .u64 (ww3 a), .int .u64 (ww2 a), .int .u64 (ww1 a), .int .u64 (ww0 a)] 32)).alloc (.cells #[.int .u64 (ww3 b), .int .u64 (ww2 b), .int .u64 (ww1 b), .int .u64 (ww0 b)] 32)).alloc (.cells #[.int .u64 (ww3 c), .int .u64 (ww2 c), .int .u64 (ww1 c), .int .u64 (ww0 c)] 32)).alloc (.cells #[.int .u64 (ww3 d), .int .u64 (ww2 d), .int .u64 (ww1 d), .int .u64 (ww0 d)] 32)).alloc (.cells #[.int .u64 0, .int .u64 0, .int .u64 0, .int .u64 0] 32)) [[.int .u64 (ww3 a), .int .u64 (ww2 a), .int .u64 (ww1 a), .int .u64 (ww0 a)], [.int .u64 (ww3 b), .int .u64 (ww2 b), .int .u64 (ww1 b), .int .u64 (ww0 b)], [.int .u64 (ww3 c), .int .u64 (ww2 c), .int .u64 (ww1 c), .int .u64 (ww0 c)], [.int .u64 (ww3 d), .int .u64 (ww2 d), .int .u64 (ww1 d), .int .u64 (ww0 d)], [.int .u64 0, .int .u64 0, .int .u64 0, .int .u64 0]] := ar5 _ _ _ _ _ _ _ _ _ _ w
 have R0 := T5.b 4 rfl
 have T0 : ArgsB w _ [[.int .u64 (ww3 a), .int .u64 (ww2 a), .int .u64 (ww1 a), .int .u64 (ww0 a)], [.int .u64 (ww3 b), .int .u64 (ww2 b), .int .u64 (ww1 b), .int .u64 (ww0 b)], [.int .u64 (ww3 c), .int .u64 (ww2 c), .int .u64 (ww1 c), .int .u64 (ww0 c)], [.int .u64 (ww3 d), .int .u64 (ww2 d), .int .u64 (ww1 d), .int .u64 (ww0 d)]] := T5.left (vs := [[.int .u64 0, .int .u64 0, .int .u64 0, .int .u64 0]])
 clear T5
 have C1 := times_det a d ha hd
 have C2 := times_det b c hb hc
 have C3 := plus_det (a * d) (b * c) h1 h2 (told_lr h3)
 have C4 := toldI_det (a * d + b * c) h3
 clear ha hb hc hd h1 h2 h3
 generalize hp : a * d = p at *
 generalize hq : b * c = q at *
 generalize hr : p + q = r at *
 clear hp hq hr
 have tok1 : True := trivial
 go_enter Tryz.func40, Tryz.ntmps40
 go_upto_region 1 with fail
 generalize (((((w.alloc (.cells #[.int .u64 (ww3 a), .int .u64 (ww2 a), .int .u64 (ww1 a), .int .u64 (ww0 a)] 32)).alloc (.cells #[.int .u64 (ww3 b), .int .u64 (ww2 b), .int .u64 (ww1 b), .int .u64 (ww0 b)] 32)).alloc (.cells #[.int .u64 (ww3 c), .int .u64 (ww2 c), .int .u64 (ww1 c), .int .u64 (ww0 c)] 32)).alloc (.cells #[.int .u64 (ww3 d), .int .u64 (ww2 d), .int .u64 (ww1 d), .int .u64 (ww0 d)] 32)).alloc (.cells #[.int .u64 0, .int .u64 0, .int .u64 0, .int .u64 0] 32)) = W at *
 go_region_held3 (fun w' => w'.cell? ⟨w.heap.size, 0, none⟩ = some (.int .u64 (ww3 a)) ∧ w'.cell? ⟨w.heap.size, 1, none⟩ = some (.int .u64 (ww2 a)) ∧ w'.cell? ⟨w.heap.size, 2, none⟩ = some (.int .u64 (ww1 a)) ∧ w'.cell? ⟨w.heap.size, 3, none⟩ = some (.int .u64 (ww0 a)) ∧ w'.cell? ⟨w.heap.size + 1, 0, none⟩ = some (.int .u64 (ww3 b)) ∧ w'.cell? ⟨w.heap.size + 1, 1, none⟩ = some (.int .u64 (ww2 b)) ∧ w'.cell? ⟨w.heap.size + 1, 2, none⟩ = some (.int .u64 (ww1 b)) ∧ w'.cell? ⟨w.heap.size + 1, 3, none⟩ = some (.int .u64 (ww0 b)) ∧ w'.cell? ⟨w.heap.size + 2, 0, none⟩ = some (.int .u64 (ww3 c)) ∧ w'.cell? ⟨w.heap.size + 2, 1, none⟩ = some (.int .u64 (ww2 c)) ∧ w'.cell? ⟨w.heap.size + 2, 2, none⟩ = some (.int .u64 (ww1 c)) ∧ w'.cell? ⟨w.heap.size + 2, 3, none⟩ = some (.int .u64 (ww0 c)) ∧ w'.cell? ⟨w.heap.size + 3, 0, none⟩ = some (.int .u64 (ww3 d)) ∧ w'.cell? ⟨w.heap.size + 3, 1, none⟩ = some (.int .u64 (ww2 d)) ∧ w'.cell? ⟨w.heap.size + 3, 2, none⟩ = some (.int .u64 (ww1 d)) ∧ w'.cell? ⟨w.heap.size + 3, 3, none⟩ = some (.int .u64 (ww0 d))) ((refine joint_cells ?_ <;> repeat (first | (with_reducible exact T0) | (with_reducible refine ArgsB.drew ?_) | (with_reducible refine ArgsB.set4g ?_ (by simp; try omega) _ _ _ _))))
   (first
     | (go_at_call 33; have _t := tok1; refine (C1 _).mono ?_; rintro e w1 ⟨rfl, hB⟩; (first | (have T1 : ArgsB w w1 _ := (by with_reducible exact T0.step hB); have tltw1 := (T0.b 3 rfl).lt; have lR0w1 := R0.lt; replace R0 := R0.step hB; skip) | (have T1 : ArgsB w w1 _ := (by with_reducible exact T0.drew.step hB); have tltw1 := (T0.b 3 rfl).lt; have lR0w1 := R0.lt; replace R0 := R0.drew.step hB; skip)); clear T0; have T0 := T1; clear T1; clear hB; clear tok1 _t)
     | (go_at_call 33; refine (C2 _).mono ?_; rintro e w2 ⟨rfl, hB⟩; (first | (have T1 : ArgsB w w2 _ := (by with_reducible exact T0.step hB); have tltw2 := (T0.b 3 rfl).lt; have lR0w2 := R0.lt; replace R0 := R0.step hB; skip) | (have T1 : ArgsB w w2 _ := (by with_reducible exact T0.drew.step hB); have tltw2 := (T0.b 3 rfl).lt; have lR0w2 := R0.lt; replace R0 := R0.drew.step hB; skip)); clear T0; have T0 := T1; clear T1; clear hB)
     | (go_at_call 43; refine (C3 _).mono ?_; rintro e w3 ⟨rfl, hB⟩; (first | (have T1 : ArgsB w w3 _ := (by with_reducible exact T0.step hB); have tltw3 := (T0.b 3 rfl).lt; have lR0w3 := R0.lt; replace R0 := R0.step hB; skip) | (have T1 : ArgsB w w3 _ := (by with_reducible exact T0.drew.step hB); have tltw3 := (T0.b 3 rfl).lt; have lR0w3 := R0.lt; replace R0 := R0.drew.step hB; skip)); clear T0; have T0 := T1; clear T1; clear hB)
     | (go_at_call 32; refine (C4 _).mono ?_; rintro e w4 ⟨rfl, hB⟩; (first | (have T1 : ArgsB w w4 _ := (by with_reducible exact T0.step hB); have tltw4 := (T0.b 3 rfl).lt; have lR0w4 := R0.lt; replace R0 := R0.step hB; skip) | (have T1 : ArgsB w w4 _ := (by with_reducible exact T0.drew.step hB); have tltw4 := (T0.b 3 rfl).lt; have lR0w4 := R0.lt; replace R0 := R0.drew.step hB; skip)); clear T0; have T0 := T1; clear T1; clear hB; obtain ⟨rc0, rf0, rc1, rf1, rc2, rf2, rc3, rf3⟩ := R0.cf4; have rl := R0.lt))
 all_goals have HB := T0.below
 all_goals clear T0 R0
 all_goals go_wp2
 all_goals refine bodyPost_ret (v := W4 r) (by simp [results, Tryz.results40, go_sem, rc0, rc1, rc2, rc3]) rfl ?_
 all_goals exact ⟨rfl, by first | exact below_set4 (g := w.heap.size + 4) (by omega) HB | exact (below_set4 (g := w.heap.size + 4) (by omega) HB).drew⟩
theorem isPart_det (x : Int) (hx : told x = true) (w : World) : Calls Tryz.prog 70 #[W4 x] w (VP (.bool (small x)) w) := by
 have T0 : ArgsB w (w.alloc (.cells #[.int .u64 (ww3 x), .int .u64 (ww2 x), .int .u64 (ww1 x), .int .u64 (ww0 x)] 32)) [[.int .u64 (ww3 x), .int .u64 (ww2 x), .int .u64 (ww1 x), .int .u64 (ww0 x)]] := ar1 _ _ w
 have C := bitsW_det x hx
 clear hx
 go_enter Tryz.func70, Tryz.ntmps70
 go_wp2_with fail
 refine (C _).mono ?_
 rintro e w1 ⟨b, rfl, hb, hB⟩
 have HB := (T0.step hB).below
 have hs : Hid (small x = decide ((b : Int) ≤ 80)) := by
   show _ = _
   have := bits_small hb
   unfold small
   rw [Bool.eq_iff_iff, decide_eq_true_iff, decide_eq_true_iff]
   omega
 clear T0 hB hb C
 go_wp2
 go_ret
 exact ⟨by rw [hs.out]; simp, HB⟩
theorem eqLongOne (x0 x1 x2 x3 x4 x5 x6 x7 : Int) (w : World) : (Op.equalIn 10000 68 (L8 x0 x1 x2 x3 x4 x5 x6 x7) (L8 1 0 0 0 0 0 0 0)).run Tryz.prog w = .ok (x0 == 1 && x1 == 0 && x2 == 0 && x3 == 0 && x4 == 0 && x5 == 0 && x6 == 0 && x7 == 0) w := by
 have u3 := Tryz.underlying30
 have a3 := Tryz.isAgg30
 have z3 := Tryz.sizeOf30
 rw [show (10000 : Nat) = 9999 + 1 from rfl, Op.equalIn]
 simp only [Sem.run_bind, run_underlying Tryz.underlying68, Result.andThen_ok]
 simp only [Std.Legacy.Range.forIn_eq_forIn_range', Std.Legacy.Range.size, Nat.sub_zero, Nat.add_sub_cancel, Nat.div_one, List.range'_succ, List.range'_zero, List.forIn_cons, List.forIn_nil]
 go_simp
 by_cases h0 : x0 = 1
 · subst h0
   by_cases h1 : x1 = 0
   · subst h1
     by_cases h2 : x2 = 0
     · subst h2
       by_cases h3 : x3 = 0
       · subst h3
         by_cases h4 : x4 = 0
         · subst h4
           by_cases h5 : x5 = 0
           · subst h5
             by_cases h6 : x6 = 0
             · subst h6
               by_cases h7 : x7 = 0
               · subst h7
                 simp
               · simp [h7]
             · simp [h6]
           · simp [h5]
         · simp [h4]
       · simp [h3]
     · simp [h2]
   · simp [h1]
 · simp [h0]
theorem oneLV {z : Int} (h0 : LR z) : (lw0 z == 1 && lw1 z == 0 && lw2 z == 0 && lw3 z == 0 && lw4 z == 0 && lw5 z == 0 && lw6 z == 0 && lw7 z == 0) = decide (z = 1) := by
 rw [Bool.eq_iff_iff]
 simp only [Bool.and_eq_true, beq_iff_eq, decide_eq_true_eq]
 constructor
 · rintro ⟨⟨⟨⟨⟨⟨⟨e0, e1⟩, e2⟩, e3⟩, e4⟩, e5⟩, e6⟩, e7⟩
   have := lw_sl h0
   rw [e0, e1, e2, e3, e4, e5, e6, e7] at this
   rw [← this]; decide
 · rintro rfl
   decide
theorem eqLVOne (z : Int) (h0 : LR z) (w : World) : (Op.equalIn 10000 68 (LV z) (L8 1 0 0 0 0 0 0 0)).run Tryz.prog w = .ok (decide (z = 1)) w := by
 rw [← oneLV h0]
 exact eqLongOne _ _ _ _ _ _ _ _ w
theorem cut3_new {w X : World} {vss : List (List Value)} {rs zs : List Value} {T : TypeId} {g : Nat} (h : ArgsB w X vss) (hl : w.heap.size + vss.length ≤ X.heap.size) (R : Blk X g zs) : CutB w (X.alloc (.cells rs.toArray T)) vss rs (.pointer (some ⟨X.heap.size, 0, none⟩)) ∧ Blk (X.alloc (.cells rs.toArray T)) g zs ∧ (Value.pointer (some ⟨X.heap.size, 0, none⟩)) ≠ .pointer (some ⟨g, 0, none⟩) := by
 refine ⟨cutB_new h hl, R.alloc _, ?_⟩
 intro he
 have := R.lt
 simp at he <;> omega
theorem cut3_set8 {w X : World} {vss : List (List Value)} {zs : List Value} {v0 v1 v2 v3 v4 v5 v6 v7 z0 z1 z2 z3 z4 z5 z6 z7 : Value} {g g' : Nat} (h : ArgsB w X vss) (G : Blk X g [z0, z1, z2, z3, z4, z5, z6, z7]) (hg : w.heap.size + vss.length ≤ g) (R : Blk X g' zs) (hne : g' < g) : CutB w ((((((((X.setCell ⟨g, 0, none⟩ v0).setCell ⟨g, 1, none⟩ v1).setCell ⟨g, 2, none⟩ v2).setCell ⟨g, 3, none⟩ v3).setCell ⟨g, 4, none⟩ v4).setCell ⟨g, 5, none⟩ v5).setCell ⟨g, 6, none⟩ v6).setCell ⟨g, 7, none⟩ v7) vss [v0, v1, v2, v3, v4, v5, v6, v7] (.pointer (some ⟨g, 0, none⟩)) ∧ Blk ((((((((X.setCell ⟨g, 0, none⟩ v0).setCell ⟨g, 1, none⟩ v1).setCell ⟨g, 2, none⟩ v2).setCell ⟨g, 3, none⟩ v3).setCell ⟨g, 4, none⟩ v4).setCell ⟨g, 5, none⟩ v5).setCell ⟨g, 6, none⟩ v6).setCell ⟨g, 7, none⟩ v7) g' zs ∧ (Value.pointer (some ⟨g, 0, none⟩)) ≠ .pointer (some ⟨g', 0, none⟩) := by
 refine ⟨cutB_set8 h G hg, R.set8 (by omega), ?_⟩
 intro he
 simp at he <;> omega
theorem c3_cells {x y z : Int} {w W : World} (T0 : ArgsB w W [[.int .u64 (ww3 x), .int .u64 (ww2 x), .int .u64 (ww1 x), .int .u64 (ww0 x)], [.int .u64 (ww3 y), .int .u64 (ww2 y), .int .u64 (ww1 y), .int .u64 (ww0 y)], [.int .u64 (ww3 z), .int .u64 (ww2 z), .int .u64 (ww1 z), .int .u64 (ww0 z)]]) : (fun w' => w'.cell? ⟨w.heap.size, 0, none⟩ = some (.int .u64 (ww3 x)) ∧ w'.cell? ⟨w.heap.size, 1, none⟩ = some (.int .u64 (ww2 x)) ∧ w'.cell? ⟨w.heap.size, 2, none⟩ = some (.int .u64 (ww1 x)) ∧ w'.cell? ⟨w.heap.size, 3, none⟩ = some (.int .u64 (ww0 x)) ∧ w'.cell? ⟨w.heap.size + 1, 0, none⟩ = some (.int .u64 (ww3 y)) ∧ w'.cell? ⟨w.heap.size + 1, 1, none⟩ = some (.int .u64 (ww2 y)) ∧ w'.cell? ⟨w.heap.size + 1, 2, none⟩ = some (.int .u64 (ww1 y)) ∧ w'.cell? ⟨w.heap.size + 1, 3, none⟩ = some (.int .u64 (ww0 y)) ∧ w'.cell? ⟨w.heap.size + 2, 0, none⟩ = some (.int .u64 (ww3 z)) ∧ w'.cell? ⟨w.heap.size + 2, 1, none⟩ = some (.int .u64 (ww2 z)) ∧ w'.cell? ⟨w.heap.size + 2, 2, none⟩ = some (.int .u64 (ww1 z)) ∧ w'.cell? ⟨w.heap.size + 2, 3, none⟩ = some (.int .u64 (ww0 z))) W := ⟨(T0.b 0 rfl).c 0 rfl, (T0.b 0 rfl).c 1 rfl, (T0.b 0 rfl).c 2 rfl, (T0.b 0 rfl).c 3 rfl, (T0.b 1 rfl).c 0 rfl, (T0.b 1 rfl).c 1 rfl, (T0.b 1 rfl).c 2 rfl, (T0.b 1 rfl).c 3 rfl, (T0.b 2 rfl).c 0 rfl, (T0.b 2 rfl).c 1 rfl, (T0.b 2 rfl).c 2 rfl, (T0.b 2 rfl).c 3 rfl⟩
theorem c3_cells2 {x y z g : Int} {w W : World} {gc : Nat} (T0 : ArgsB w W [[.int .u64 (ww3 x), .int .u64 (ww2 x), .int .u64 (ww1 x), .int .u64 (ww0 x)], [.int .u64 (ww3 y), .int .u64 (ww2 y), .int .u64 (ww1 y), .int .u64 (ww0 y)], [.int .u64 (ww3 z), .int .u64 (ww2 z), .int .u64 (ww1 z), .int .u64 (ww0 z)]]) (GC : Blk W gc [.int .u64 (lw0 g), .int .u64 (lw1 g), .int .u64 (lw2 g), .int .u64 (lw3 g), .int .u64 (lw4 g), .int .u64 (lw5 g), .int .u64 (lw6 g), .int .u64 (lw7 g)]) : (fun w' => w'.cell? ⟨w.heap.size + 1, 0, none⟩ = some (.int .u64 (ww3 y)) ∧ w'.cell? ⟨w.heap.size + 1, 1, none⟩ = some (.int .u64 (ww2 y)) ∧ w'.cell? ⟨w.heap.size + 1, 2, none⟩ = some (.int .u64 (ww1 y)) ∧ w'.cell? ⟨w.heap.size + 1, 3, none⟩ = some (.int .u64 (ww0 y)) ∧ w'.cell? ⟨gc, 0, none⟩ = some (.int .u64 (lw0 g)) ∧ w'.cell? ⟨gc, 1, none⟩ = some (.int .u64 (lw1 g)) ∧ w'.cell? ⟨gc, 2, none⟩ = some (.int .u64 (lw2 g)) ∧ w'.cell? ⟨gc, 3, none⟩ = some (.int .u64 (lw3 g)) ∧ w'.cell? ⟨gc, 4, none⟩ = some (.int .u64 (lw4 g)) ∧ w'.cell? ⟨gc, 5, none⟩ = some (.int .u64 (lw5 g)) ∧ w'.cell? ⟨gc, 6, none⟩ = some (.int .u64 (lw6 g)) ∧ w'.cell? ⟨gc, 7, none⟩ = some (.int .u64 (lw7 g))) W := ⟨(T0.b 1 rfl).c 0 rfl, (T0.b 1 rfl).c 1 rfl, (T0.b 1 rfl).c 2 rfl, (T0.b 1 rfl).c 3 rfl, GC.c 0 rfl, GC.c 1 rfl, GC.c 2 rfl, GC.c 3 rfl, GC.c 4 rfl, GC.c 5 rfl, GC.c 6 rfl, GC.c 7 rfl⟩
theorem common3_det (x y z : Int) (hx : told x = true) (hy : told y = true) (hz : told z = true) (w : World) : Calls Tryz.prog 71 #[W4 x, W4 y, W4 z] w (VP (LV (Int.gcd (y.natAbs : Int) (Int.gcd (x.natAbs : Int) (z.natAbs : Int) : Int) : Int)) w) := by
 have T5 : ArgsB w ((((w.alloc (.cells #[.int .u64 (ww3 x), .int .u64 (ww2 x), .int .u64 (ww1 x), .int .u64 (ww0 x)] 32)).alloc (.cells #[.int .u64 (ww3 y), .int .u64 (ww2 y), .int .u64 (ww1 y), .int .u64 (ww0 y)] 32)).alloc (.cells #[.int .u64 (ww3 z), .int .u64 (ww2 z), .int .u64 (ww1 z), .int .u64 (ww0 z)] 32)).alloc (.cells #[.int .u64 0, .int .u64 0, .int .u64 0, .int .u64 0, .int .u64 0, .int .u64 0, .int .u64 0, .int .u64 0] 68)) [[.int .u64 (ww3 x), .int .u64 (ww2 x), .int .u64 (ww1 x), .int .u64 (ww0 x)], [.int .u64 (ww3 y), .int .u64 (ww2 y), .int .u64 (ww1 y), .int .u64 (ww0 y)], [.int .u64 (ww3 z), .int .u64 (ww2 z), .int .u64 (ww1 z), .int .u64 (ww0 z)], [.int .u64 0, .int .u64 0, .int .u64 0, .int .u64 0, .int .u64 0, .int .u64 0, .int .u64 0, .int .u64 0]] := ar4 _ _ _ _ _ _ _ _ w
 have R0 := T5.b 3 rfl
 have T0 : ArgsB w _ [[.int .u64 (ww3 x), .int .u64 (ww2 x), .int .u64 (ww1 x), .int .u64 (ww0 x)], [.int .u64 (ww3 y), .int .u64 (ww2 y), .int .u64 (ww1 y), .int .u64 (ww0 y)], [.int .u64 (ww3 z), .int .u64 (ww2 z), .int .u64 (ww1 z), .int .u64 (ww0 z)]] := T5.left (vs := [[.int .u64 0, .int .u64 0, .int .u64 0, .int .u64 0, .int .u64 0, .int .u64 0, .int .u64 0, .int .u64 0]])
 clear T5
 have A1 := longOf_det x hx
 have A2 := longOf_det z hz
 have A3 := longOf_det y hy
 have tx := told_abs hx
 have ty := told_abs hy
 have tz := told_abs hz
 have B1 := size_det x (told_lr hx) (by omega)
 have B2 := size_det z (told_lr hz) (by omega)
 have B3 := size_det y (told_lr hy) (by omega)
 have gb := gcd_le x.natAbs z.natAbs 57896044618658097711785492504343953926634992332820282019728792003956564819968 (by omega) (by omega)
 have gb2 := gcd_le y.natAbs (Int.gcd (x.natAbs : Int) (z.natAbs : Int)) 57896044618658097711785492504343953926634992332820282019728792003956564819968 (by omega) (by omega)
 have C1 := gcd_det (x.natAbs : Int) (z.natAbs : Int) ⟨by omega, by omega⟩ ⟨by omega, by omega⟩ (by omega)
 have C2 := gcd_det (y.natAbs : Int) (Int.gcd (x.natAbs : Int) (z.natAbs : Int) : Int) ⟨by omega, by omega⟩ ⟨by omega, by omega⟩ (by omega)
 clear gb gb2 tx ty tz hx hy hz
 generalize ((Int.gcd (y.natAbs : Int) (Int.gcd (x.natAbs : Int) (z.natAbs : Int) : Int) : Nat) : Int) = q at *
 generalize ((Int.gcd (x.natAbs : Int) (z.natAbs : Int) : Nat) : Int) = g at *
 generalize (x.natAbs : Int) = ax at *
 generalize (y.natAbs : Int) = ay at *
 generalize (z.natAbs : Int) = az at *
 have tok1 : True := trivial
 have tok2 : True := trivial
 go_enter Tryz.func71, Tryz.ntmps71
 go_upto_region 1 with fail
 generalize ((((w.alloc (.cells #[.int .u64 (ww3 x), .int .u64 (ww2 x), .int .u64 (ww1 x), .int .u64 (ww0 x)] 32)).alloc (.cells #[.int .u64 (ww3 y), .int .u64 (ww2 y), .int .u64 (ww1 y), .int .u64 (ww0 y)] 32)).alloc (.cells #[.int .u64 (ww3 z), .int .u64 (ww2 z), .int .u64 (ww1 z), .int .u64 (ww0 z)] 32)).alloc (.cells #[.int .u64 0, .int .u64 0, .int .u64 0, .int .u64 0, .int .u64 0, .int .u64 0, .int .u64 0, .int .u64 0] 68)) = W at *
 have hlw := R0.lt
 have hlt := (T0.b 2 rfl).lt
 go_cut [7] (fun p wx => CutB w wx [[.int .u64 (ww3 x), .int .u64 (ww2 x), .int .u64 (ww1 x), .int .u64 (ww0 x)], [.int .u64 (ww3 y), .int .u64 (ww2 y), .int .u64 (ww1 y), .int .u64 (ww0 y)], [.int .u64 (ww3 z), .int .u64 (ww2 z), .int .u64 (ww1 z), .int .u64 (ww0 z)]] [.int .u64 (lw0 g), .int .u64 (lw1 g), .int .u64 (lw2 g), .int .u64 (lw3 g), .int .u64 (lw4 g), .int .u64 (lw5 g), .int .u64 (lw6 g), .int .u64 (lw7 g)] p ∧ Blk wx (w.heap.size + 3) [.int .u64 0, .int .u64 0, .int .u64 0, .int .u64 0, .int .u64 0, .int .u64 0, .int .u64 0, .int .u64 0] ∧ p ≠ .pointer (some ⟨w.heap.size + 3, 0, none⟩))
 case first =>
   go_region_held3 (fun w' => w'.cell? ⟨w.heap.size, 0, none⟩ = some (.int .u64 (ww3 x)) ∧ w'.cell? ⟨w.heap.size, 1, none⟩ = some (.int .u64 (ww2 x)) ∧ w'.cell? ⟨w.heap.size, 2, none⟩ = some (.int .u64 (ww1 x)) ∧ w'.cell? ⟨w.heap.size, 3, none⟩ = some (.int .u64 (ww0 x)) ∧ w'.cell? ⟨w.heap.size + 1, 0, none⟩ = some (.int .u64 (ww3 y)) ∧ w'.cell? ⟨w.heap.size + 1, 1, none⟩ = some (.int .u64 (ww2 y)) ∧ w'.cell? ⟨w.heap.size + 1, 2, none⟩ = some (.int .u64 (ww1 y)) ∧ w'.cell? ⟨w.heap.size + 1, 3, none⟩ = some (.int .u64 (ww0 y)) ∧ w'.cell? ⟨w.heap.size + 2, 0, none⟩ = some (.int .u64 (ww3 z)) ∧ w'.cell? ⟨w.heap.size + 2, 1, none⟩ = some (.int .u64 (ww2 z)) ∧ w'.cell? ⟨w.heap.size + 2, 2, none⟩ = some (.int .u64 (ww1 z)) ∧ w'.cell? ⟨w.heap.size + 2, 3, none⟩ = some (.int .u64 (ww0 z))) ((refine c3_cells ?_ <;> repeat (first | (with_reducible exact T0) | (with_reducible refine ArgsB.drew ?_) | (with_reducible refine ArgsB.alloc ?_ _) | (with_reducible refine ArgsB.set8g ?_ (by simp; omega) _ _ _ _ _ _ _ _))))
     (first
       | (go_at_call 58; have _t := tok1; refine (A1 _).mono ?_; rintro e w1 ⟨rfl, hB⟩; (first | (have T1 : ArgsB w w1 _ := (by with_reducible exact T0.step hB); have tltw1 := (T0.b 2 rfl).lt; have lR0w1 := R0.lt; replace R0 := R0.step hB; (try (replace G0 := G0.step hB; obtain ⟨j0c, j0f, j1c, j1f, j2c, j2f, j3c, j3f, j4c, j4f, j5c, j5f, j6c, j6f, j7c, j7f⟩ := G0.cf8; have jlt := G0.lt))) | (have T1 : ArgsB w w1 _ := (by with_reducible exact T0.drew.step hB); have tltw1 := (T0.b 2 rfl).lt; have lR0w1 := R0.lt; replace R0 := R0.drew.step hB; (try (replace G0 := G0.drew.step hB; obtain ⟨j0c, j0f, j1c, j1f, j2c, j2f, j3c, j3f, j4c, j4f, j5c, j5f, j6c, j6f, j7c, j7f⟩ := G0.cf8; have jlt := G0.lt))) | (have T1 : ArgsB w w1 _ := (by with_reducible exact (T0.alloc _).step hB); have tltw1 := (T0.b 2 rfl).lt; have lR0w1 := R0.lt; replace R0 := (R0.alloc _).step hB; (have G0 := (Blk.new _ [.int .u64 0, .int .u64 0, .int .u64 0, .int .u64 0, .int .u64 0, .int .u64 0, .int .u64 0, .int .u64 0] _ rfl).step hB; obtain ⟨j0c, j0f, j1c, j1f, j2c, j2f, j3c, j3f, j4c, j4f, j5c, j5f, j6c, j6f, j7c, j7f⟩ := G0.cf8; have jlt := G0.lt)) | (have T1 : ArgsB w w1 _ := (by with_reducible exact (T0.alloc _).drew.step hB); have tltw1 := (T0.b 2 rfl).lt; have lR0w1 := R0.lt; replace R0 := (R0.alloc _).drew.step hB; (have G0 := (Blk.new _ [.int .u64 0, .int .u64 0, .int .u64 0, .int .u64 0, .int .u64 0, .int .u64 0, .int .u64 0, .int .u64 0] _ rfl).drew.step hB; obtain ⟨j0c, j0f, j1c, j1f, j2c, j2f, j3c, j3f, j4c, j4f, j5c, j5f, j6c, j6f, j7c, j7f⟩ := G0.cf8; have jlt := G0.lt))); clear T0; have T0 := T1; clear T1; clear hB; clear tok1 _t)
       | (go_at_call 58; refine (A2 _).mono ?_; rintro e w2 ⟨rfl, hB⟩; (first | (have T1 : ArgsB w w2 _ := (by with_reducible exact T0.step hB); have tltw2 := (T0.b 2 rfl).lt; have lR0w2 := R0.lt; replace R0 := R0.step hB; (try (replace G0 := G0.step hB; obtain ⟨j0c, j0f, j1c, j1f, j2c, j2f, j3c, j3f, j4c, j4f, j5c, j5f, j6c, j6f, j7c, j7f⟩ := G0.cf8; have jlt := G0.lt))) | (have T1 : ArgsB w w2 _ := (by with_reducible exact T0.drew.step hB); have tltw2 := (T0.b 2 rfl).lt; have lR0w2 := R0.lt; replace R0 := R0.drew.step hB; (try (replace G0 := G0.drew.step hB; obtain ⟨j0c, j0f, j1c, j1f, j2c, j2f, j3c, j3f, j4c, j4f, j5c, j5f, j6c, j6f, j7c, j7f⟩ := G0.cf8; have jlt := G0.lt))) | (have T1 : ArgsB w w2 _ := (by with_reducible exact (T0.alloc _).step hB); have tltw2 := (T0.b 2 rfl).lt; have lR0w2 := R0.lt; replace R0 := (R0.alloc _).step hB; (have G0 := (Blk.new _ [.int .u64 0, .int .u64 0, .int .u64 0, .int .u64 0, .int .u64 0, .int .u64 0, .int .u64 0, .int .u64 0] _ rfl).step hB; obtain ⟨j0c, j0f, j1c, j1f, j2c, j2f, j3c, j3f, j4c, j4f, j5c, j5f, j6c, j6f, j7c, j7f⟩ := G0.cf8; have jlt := G0.lt)) | (have T1 : ArgsB w w2 _ := (by with_reducible exact (T0.alloc _).drew.step hB); have tltw2 := (T0.b 2 rfl).lt; have lR0w2 := R0.lt; replace R0 := (R0.alloc _).drew.step hB; (have G0 := (Blk.new _ [.int .u64 0, .int .u64 0, .int .u64 0, .int .u64 0, .int .u64 0, .int .u64 0, .int .u64 0, .int .u64 0] _ rfl).drew.step hB; obtain ⟨j0c, j0f, j1c, j1f, j2c, j2f, j3c, j3f, j4c, j4f, j5c, j5f, j6c, j6f, j7c, j7f⟩ := G0.cf8; have jlt := G0.lt))); clear T0; have T0 := T1; clear T1; clear hB)
       | (go_at_call 76; have _t := tok2; refine (B1 _).mono ?_; rintro e w3 ⟨rfl, hB⟩; (first | (have T1 : ArgsB w w3 _ := (by with_reducible exact T0.step hB); have tltw3 := (T0.b 2 rfl).lt; have lR0w3 := R0.lt; replace R0 := R0.step hB; (try (replace G0 := G0.step hB; obtain ⟨j0c, j0f, j1c, j1f, j2c, j2f, j3c, j3f, j4c, j4f, j5c, j5f, j6c, j6f, j7c, j7f⟩ := G0.cf8; have jlt := G0.lt))) | (have T1 : ArgsB w w3 _ := (by with_reducible exact T0.drew.step hB); have tltw3 := (T0.b 2 rfl).lt; have lR0w3 := R0.lt; replace R0 := R0.drew.step hB; (try (replace G0 := G0.drew.step hB; obtain ⟨j0c, j0f, j1c, j1f, j2c, j2f, j3c, j3f, j4c, j4f, j5c, j5f, j6c, j6f, j7c, j7f⟩ := G0.cf8; have jlt := G0.lt))) | (have T1 : ArgsB w w3 _ := (by with_reducible exact (T0.alloc _).step hB); have tltw3 := (T0.b 2 rfl).lt; have lR0w3 := R0.lt; replace R0 := (R0.alloc _).step hB; (have G0 := (Blk.new _ [.int .u64 0, .int .u64 0, .int .u64 0, .int .u64 0, .int .u64 0, .int .u64 0, .int .u64 0, .int .u64 0] _ rfl).step hB; obtain ⟨j0c, j0f, j1c, j1f, j2c, j2f, j3c, j3f, j4c, j4f, j5c, j5f, j6c, j6f, j7c, j7f⟩ := G0.cf8; have jlt := G0.lt)) | (have T1 : ArgsB w w3 _ := (by with_reducible exact (T0.alloc _).drew.step hB); have tltw3 := (T0.b 2 rfl).lt; have lR0w3 := R0.lt; replace R0 := (R0.alloc _).drew.step hB; (have G0 := (Blk.new _ [.int .u64 0, .int .u64 0, .int .u64 0, .int .u64 0, .int .u64 0, .int .u64 0, .int .u64 0, .int .u64 0] _ rfl).drew.step hB; obtain ⟨j0c, j0f, j1c, j1f, j2c, j2f, j3c, j3f, j4c, j4f, j5c, j5f, j6c, j6f, j7c, j7f⟩ := G0.cf8; have jlt := G0.lt))); clear T0; have T0 := T1; clear T1; clear hB; clear tok2 _t)
       | (go_at_call 76; refine (B2 _).mono ?_; rintro e w4 ⟨rfl, hB⟩; (first | (have T1 : ArgsB w w4 _ := (by with_reducible exact T0.step hB); have tltw4 := (T0.b 2 rfl).lt; have lR0w4 := R0.lt; replace R0 := R0.step hB; (try (replace G0 := G0.step hB; obtain ⟨j0c, j0f, j1c, j1f, j2c, j2f, j3c, j3f, j4c, j4f, j5c, j5f, j6c, j6f, j7c, j7f⟩ := G0.cf8; have jlt := G0.lt))) | (have T1 : ArgsB w w4 _ := (by with_reducible exact T0.drew.step hB); have tltw4 := (T0.b 2 rfl).lt; have lR0w4 := R0.lt; replace R0 := R0.drew.step hB; (try (replace G0 := G0.drew.step hB; obtain ⟨j0c, j0f, j1c, j1f, j2c, j2f, j3c, j3f, j4c, j4f, j5c, j5f, j6c, j6f, j7c, j7f⟩ := G0.cf8; have jlt := G0.lt))) | (have T1 : ArgsB w w4 _ := (by with_reducible exact (T0.alloc _).step hB); have tltw4 := (T0.b 2 rfl).lt; have lR0w4 := R0.lt; replace R0 := (R0.alloc _).step hB; (have G0 := (Blk.new _ [.int .u64 0, .int .u64 0, .int .u64 0, .int .u64 0, .int .u64 0, .int .u64 0, .int .u64 0, .int .u64 0] _ rfl).step hB; obtain ⟨j0c, j0f, j1c, j1f, j2c, j2f, j3c, j3f, j4c, j4f, j5c, j5f, j6c, j6f, j7c, j7f⟩ := G0.cf8; have jlt := G0.lt)) | (have T1 : ArgsB w w4 _ := (by with_reducible exact (T0.alloc _).drew.step hB); have tltw4 := (T0.b 2 rfl).lt; have lR0w4 := R0.lt; replace R0 := (R0.alloc _).drew.step hB; (have G0 := (Blk.new _ [.int .u64 0, .int .u64 0, .int .u64 0, .int .u64 0, .int .u64 0, .int .u64 0, .int .u64 0, .int .u64 0] _ rfl).drew.step hB; obtain ⟨j0c, j0f, j1c, j1f, j2c, j2f, j3c, j3f, j4c, j4f, j5c, j5f, j6c, j6f, j7c, j7f⟩ := G0.cf8; have jlt := G0.lt))); clear T0; have T0 := T1; clear T1; clear hB)
       | (go_at_call 75; refine (C1 _).mono ?_; rintro e w5 ⟨rfl, hB⟩; (first | (have T1 : ArgsB w w5 _ := (by with_reducible exact T0.step hB); have tltw5 := (T0.b 2 rfl).lt; have lR0w5 := R0.lt; replace R0 := R0.step hB; (try (replace G0 := G0.step hB; obtain ⟨j0c, j0f, j1c, j1f, j2c, j2f, j3c, j3f, j4c, j4f, j5c, j5f, j6c, j6f, j7c, j7f⟩ := G0.cf8; have jlt := G0.lt))) | (have T1 : ArgsB w w5 _ := (by with_reducible exact T0.drew.step hB); have tltw5 := (T0.b 2 rfl).lt; have lR0w5 := R0.lt; replace R0 := R0.drew.step hB; (try (replace G0 := G0.drew.step hB; obtain ⟨j0c, j0f, j1c, j1f, j2c, j2f, j3c, j3f, j4c, j4f, j5c, j5f, j6c, j6f, j7c, j7f⟩ := G0.cf8; have jlt := G0.lt))) | (have T1 : ArgsB w w5 _ := (by with_reducible exact (T0.alloc _).step hB); have tltw5 := (T0.b 2 rfl).lt; have lR0w5 := R0.lt; replace R0 := (R0.alloc _).step hB; (have G0 := (Blk.new _ [.int .u64 0, .int .u64 0, .int .u64 0, .int .u64 0, .int .u64 0, .int .u64 0, .int .u64 0, .int .u64 0] _ rfl).step hB; obtain ⟨j0c, j0f, j1c, j1f, j2c, j2f, j3c, j3f, j4c, j4f, j5c, j5f, j6c, j6f, j7c, j7f⟩ := G0.cf8; have jlt := G0.lt)) | (have T1 : ArgsB w w5 _ := (by with_reducible exact (T0.alloc _).drew.step hB); have tltw5 := (T0.b 2 rfl).lt; have lR0w5 := R0.lt; replace R0 := (R0.alloc _).drew.step hB; (have G0 := (Blk.new _ [.int .u64 0, .int .u64 0, .int .u64 0, .int .u64 0, .int .u64 0, .int .u64 0, .int .u64 0, .int .u64 0] _ rfl).drew.step hB; obtain ⟨j0c, j0f, j1c, j1f, j2c, j2f, j3c, j3f, j4c, j4f, j5c, j5f, j6c, j6f, j7c, j7f⟩ := G0.cf8; have jlt := G0.lt))); clear T0; have T0 := T1; clear T1; clear hB))
   all_goals go_wp2_with fail
   all_goals go_meet
   all_goals have hl : w.heap.size + ([[.int .u64 (ww3 x), .int .u64 (ww2 x), .int .u64 (ww1 x), .int .u64 (ww0 x)], [.int .u64 (ww3 y), .int .u64 (ww2 y), .int .u64 (ww1 y), .int .u64 (ww0 y)], [.int .u64 (ww3 z), .int .u64 (ww2 z), .int .u64 (ww1 z), .int .u64 (ww0 z)]] : List (List Value)).length ≤ w5.heap.size := (T0.b 2 rfl).lt
   all_goals have hr := R0.lt
   all_goals first | (with_reducible exact cut3_new T0 hl R0) | (with_reducible exact cut3_set8 T0 G0 (by simp; omega) R0 (by omega))
 case rest =>
   clear T0 R0 tok1 tok2 A1 A2 B1 B2 C1 hlw hlt
   obtain ⟨⟨gc, hp, hgc, T0, GC⟩, R0, hne⟩ := hcut
   subst hp
   simp at hgc hne
   go_upto_region 2 with fail
   go_region_held3 (fun w' => w'.cell? ⟨w.heap.size + 1, 0, none⟩ = some (.int .u64 (ww3 y)) ∧ w'.cell? ⟨w.heap.size + 1, 1, none⟩ = some (.int .u64 (ww2 y)) ∧ w'.cell? ⟨w.heap.size + 1, 2, none⟩ = some (.int .u64 (ww1 y)) ∧ w'.cell? ⟨w.heap.size + 1, 3, none⟩ = some (.int .u64 (ww0 y)) ∧ w'.cell? ⟨gc, 0, none⟩ = some (.int .u64 (lw0 g)) ∧ w'.cell? ⟨gc, 1, none⟩ = some (.int .u64 (lw1 g)) ∧ w'.cell? ⟨gc, 2, none⟩ = some (.int .u64 (lw2 g)) ∧ w'.cell? ⟨gc, 3, none⟩ = some (.int .u64 (lw3 g)) ∧ w'.cell? ⟨gc, 4, none⟩ = some (.int .u64 (lw4 g)) ∧ w'.cell? ⟨gc, 5, none⟩ = some (.int .u64 (lw5 g)) ∧ w'.cell? ⟨gc, 6, none⟩ = some (.int .u64 (lw6 g)) ∧ w'.cell? ⟨gc, 7, none⟩ = some (.int .u64 (lw7 g))) ((refine c3_cells2 (x := x) (z := z) ?_ ?_ <;> repeat (first | (with_reducible exact T0) | (with_reducible exact GC) | (with_reducible refine ArgsB.drew ?_) | (with_reducible refine Blk.drew ?_) | (with_reducible refine ArgsB.set8g ?_ (by simp; try omega) _ _ _ _ _ _ _ _) | (with_reducible refine Blk.set8 ?_ (by omega)))))
     (first
       | (go_at_call 58; refine (A3 _).mono ?_; rintro e w1 ⟨rfl, hB⟩; (first | (have T1 : ArgsB w w1 _ := (by with_reducible exact T0.step hB); have tltw1 := (T0.b 2 rfl).lt; have lR0w1 := R0.lt; replace R0 := R0.step hB; have lGCw1 := GC.lt; replace GC := GC.step hB; skip) | (have T1 : ArgsB w w1 _ := (by with_reducible exact T0.drew.step hB); have tltw1 := (T0.b 2 rfl).lt; have lR0w1 := R0.lt; replace R0 := R0.drew.step hB; have lGCw1 := GC.lt; replace GC := GC.drew.step hB; skip)); clear T0; have T0 := T1; clear T1; clear hB)
       | (go_at_call 76; refine (B3 _).mono ?_; rintro e w2 ⟨rfl, hB⟩; (first | (have T1 : ArgsB w w2 _ := (by with_reducible exact T0.step hB); have tltw2 := (T0.b 2 rfl).lt; have lR0w2 := R0.lt; replace R0 := R0.step hB; have lGCw2 := GC.lt; replace GC := GC.step hB; skip) | (have T1 : ArgsB w w2 _ := (by with_reducible exact T0.drew.step hB); have tltw2 := (T0.b 2 rfl).lt; have lR0w2 := R0.lt; replace R0 := R0.drew.step hB; have lGCw2 := GC.lt; replace GC := GC.drew.step hB; skip)); clear T0; have T0 := T1; clear T1; clear hB)
       | (go_at_call 75; refine (C2 _).mono ?_; rintro e w3 ⟨rfl, hB⟩; (first | (have T1 : ArgsB w w3 _ := (by with_reducible exact T0.step hB); have tltw3 := (T0.b 2 rfl).lt; have lR0w3 := R0.lt; replace R0 := R0.step hB; have lGCw3 := GC.lt; replace GC := GC.step hB; skip) | (have T1 : ArgsB w w3 _ := (by with_reducible exact T0.drew.step hB); have tltw3 := (T0.b 2 rfl).lt; have lR0w3 := R0.lt; replace R0 := R0.drew.step hB; have lGCw3 := GC.lt; replace GC := GC.drew.step hB; skip)); clear T0; have T0 := T1; clear T1; clear hB; obtain ⟨rc0, rf0, rc1, rf1, rc2, rf2, rc3, rf3, rc4, rf4, rc5, rf5, rc6, rf6, rc7, rf7⟩ := R0.cf8; have rl := R0.lt))
   all_goals have HB := T0.below
   all_goals clear T0 GC R0
   all_goals go_wp2
   all_goals refine bodyPost_ret (v := LV q) (by simp [results, Tryz.results71, go_sem, rc0, rc1, rc2, rc3, rc4, rc5, rc6, rc7]) rfl ?_
   all_goals exact ⟨rfl, by first | exact below_set8 (g := w.heap.size + 3) (by omega) HB | exact (below_set8 (g := w.heap.size + 3) (by omega) HB).drew⟩
abbrev PV (x y z : Int) : Value := .agg #[.int .u64 (ww3 x), .int .u64 (ww2 x), .int .u64 (ww1 x), .int .u64 (ww0 x), .int .u64 (ww3 y), .int .u64 (ww2 y), .int .u64 (ww1 y), .int .u64 (ww0 y), .int .u64 (ww3 z), .int .u64 (ww2 z), .int .u64 (ww1 z), .int .u64 (ww0 z)]
def ptB (x y z : Int) : Bool := decide (0 < z) && (small x && small y && small z) && decide (Int.gcd (Int.gcd x y) z = 1)
theorem gcd_three (x y z : Int) : Int.gcd (y.natAbs : Int) (Int.gcd (x.natAbs : Int) (z.natAbs : Int) : Int) = Int.gcd (Int.gcd x y) z := by
 rw [Int.gcd_natCast_natCast, Int.gcd_natCast_natCast]
 unfold Int.gcd
 rw [Int.natAbs_natCast, Nat.gcd_comm x.natAbs z.natAbs, ← Nat.gcd_assoc, Nat.gcd_comm (Nat.gcd y.natAbs z.natAbs), ← Nat.gcd_assoc]
theorem pright_det (x y z : Int) (hx : told x = true) (hy : told y = true) (hz : told z = true) (w : World) : Calls Tryz.prog 39 #[PV x y z] w (VP (.bool (ptB x y z)) w) := by
 have X0 : Blk (w.alloc (.cells #[.int .u64 (ww3 x), .int .u64 (ww2 x), .int .u64 (ww1 x), .int .u64 (ww0 x), .int .u64 (ww3 y), .int .u64 (ww2 y), .int .u64 (ww1 y), .int .u64 (ww0 y), .int .u64 (ww3 z), .int .u64 (ww2 z), .int .u64 (ww1 z), .int .u64 (ww0 z)] 40)) w.heap.size [.int .u64 (ww3 x), .int .u64 (ww2 x), .int .u64 (ww1 x), .int .u64 (ww0 x), .int .u64 (ww3 y), .int .u64 (ww2 y), .int .u64 (ww1 y), .int .u64 (ww0 y), .int .u64 (ww3 z), .int .u64 (ww2 z), .int .u64 (ww1 z), .int .u64 (ww0 z)] := Blk.new w _ _ rfl
 have HB := (Below.refl _ w).alloc (Nat.le_refl _) (.cells #[.int .u64 (ww3 x), .int .u64 (ww2 x), .int .u64 (ww1 x), .int .u64 (ww0 x), .int .u64 (ww3 y), .int .u64 (ww2 y), .int .u64 (ww1 y), .int .u64 (ww0 y), .int .u64 (ww3 z), .int .u64 (ww2 z), .int .u64 (ww1 z), .int .u64 (ww0 z)] 40)
 have SG := sign_det z hz
 have P1 := isPart_det x hx
 have P2 := isPart_det y hy
 have P3 := isPart_det z hz
 have CM := common3_det x y z hx hy hz
 rw [gcd_three] at CM
 have hl : LR (Int.gcd (Int.gcd x y) z : Int) := by
   have tx := told_abs hx; have ty := told_abs hy; have tz := told_abs hz
   have g1 := gcd_le x.natAbs y.natAbs 57896044618658097711785492504343953926634992332820282019728792003956564819968 (by omega) (by omega)
   rw [show Int.gcd (x.natAbs : Int) (y.natAbs : Int) = Int.gcd x y by simp [Int.gcd]] at g1
   have g2 := gcd_le (Int.gcd x y) z.natAbs 57896044618658097711785492504343953926634992332820282019728792003956564819968 (by omega) (by omega)
   rw [show Int.gcd ((Int.gcd x y : Nat) : Int) (z.natAbs : Int) = Int.gcd (Int.gcd x y) z by simp [Int.gcd]] at g2
   unfold LR
   omega
 have EO := eqLVOne _ hl
 obtain ⟨G, hG⟩ : ∃ G, decide (((Int.gcd (Int.gcd x y) z : Nat) : Int) = 1) = G := ⟨_, rfl⟩
 simp only [hG] at EO
 have HG : Hid (G = decide (Int.gcd (Int.gcd x y) z = 1)) := by
   show _ = _
   rw [← hG, Bool.eq_iff_iff, decide_eq_true_iff, decide_eq_true_iff]
   omega
 clear hG hl hx hy hz
 generalize ((Int.gcd (Int.gcd x y) z : Nat) : Int) = g at *
 have hm1 : ((-1 : Int) == 1) = false := by decide
 have hm0 : ((0 : Int) == 1) = false := by decide
 go_enter Tryz.func39, Tryz.ntmps39
 have HG' := HG
 clear HG
 obtain ⟨q0, q1, q2, q3, q4, q5, q6, q7, q8, q9, q10, q11⟩ := X0.cs12
 go_wp2_with fail
 refine (SG _).mono ?_
 rintro e w1 ⟨rfl, hB⟩
 replace X0 := X0.step hB; replace HB := HB.trans (hB.mono HB.size); clear hB; clear q0 q1 q2 q3 q4 q5 q6 q7 q8 q9 q10 q11; obtain ⟨q0, q1, q2, q3, q4, q5, q6, q7, q8, q9, q10, q11⟩ := X0.cs12
 by_cases hs : 0 < z
 · rw [cmpI_gt hs]
   go_wp2_with fail
   refine (P1 _).mono ?_
   rintro e w2 ⟨rfl, hB⟩
   replace X0 := X0.step hB; replace HB := HB.trans (hB.mono HB.size); clear hB; clear q0 q1 q2 q3 q4 q5 q6 q7 q8 q9 q10 q11; obtain ⟨q0, q1, q2, q3, q4, q5, q6, q7, q8, q9, q10, q11⟩ := X0.cs12
   by_cases h1 : small x = true
   · rw [h1]
     go_wp2_with fail
     refine (P2 _).mono ?_
     rintro e w3 ⟨rfl, hB⟩
     replace X0 := X0.step hB; replace HB := HB.trans (hB.mono HB.size); clear hB; clear q0 q1 q2 q3 q4 q5 q6 q7 q8 q9 q10 q11; obtain ⟨q0, q1, q2, q3, q4, q5, q6, q7, q8, q9, q10, q11⟩ := X0.cs12
     by_cases h2 : small y = true
     · rw [h2]
       go_wp2_with fail
       refine (P3 _).mono ?_
       rintro e w4 ⟨rfl, hB⟩
       replace X0 := X0.step hB; replace HB := HB.trans (hB.mono HB.size); clear hB; clear q0 q1 q2 q3 q4 q5 q6 q7 q8 q9 q10 q11; obtain ⟨q0, q1, q2, q3, q4, q5, q6, q7, q8, q9, q10, q11⟩ := X0.cs12
       by_cases h3 : small z = true
       · rw [h3]
         go_wp2_with fail
         refine (CM _).mono ?_
         rintro e w5 ⟨rfl, hB⟩
         replace X0 := X0.step hB; replace HB := HB.trans (hB.mono HB.size); clear hB; clear q0 q1 q2 q3 q4 q5 q6 q7 q8 q9 q10 q11; obtain ⟨q0, q1, q2, q3, q4, q5, q6, q7, q8, q9, q10, q11⟩ := X0.cs12
         have HR : Hid (ptB x y z = G) := by show _ = _; unfold ptB; rw [HG'.out, h1, h2, h3]; simp [hs]
         clear HG' h1 h2 h3 hs X0 q0 q1 q2 q3 q4 q5 q6 q7 q8 q9 q10 q11
         go_wp2
         go_ret
         exact ⟨by simp [HR.out], HB⟩
       · replace h3 := Bool.eq_false_iff.2 h3
         rw [h3]
         have HR : Hid (ptB x y z = false) := by show _ = _; unfold ptB; simp [h3]
         clear HG' h1 h2 h3 hs X0 q0 q1 q2 q3 q4 q5 q6 q7 q8 q9 q10 q11
         go_wp2
         go_ret
         exact ⟨by rw [HR.out]; rfl, HB⟩
     · replace h2 := Bool.eq_false_iff.2 h2
       rw [h2]
       have HR : Hid (ptB x y z = false) := by show _ = _; unfold ptB; simp [h2]
       clear HG' h1 h2 hs X0 q0 q1 q2 q3 q4 q5 q6 q7 q8 q9 q10 q11
       go_wp2
       go_ret
       exact ⟨by rw [HR.out]; rfl, HB⟩
   · replace h1 := Bool.eq_false_iff.2 h1
     rw [h1]
     have HR : Hid (ptB x y z = false) := by show _ = _; unfold ptB; simp [h1]
     clear HG' h1 hs X0 q0 q1 q2 q3 q4 q5 q6 q7 q8 q9 q10 q11
     go_wp2
     go_ret
     exact ⟨by rw [HR.out]; rfl, HB⟩
 · have HR : Hid (ptB x y z = false) := by show _ = _; unfold ptB; simp [hs]
   have hcs : cmpI z 0 = -1 ∨ cmpI z 0 = 0 := by
     rcases Int.lt_trichotomy z 0 with h | h | h
     · exact Or.inl (cmpI_lt h)
     · exact Or.inr (cmpI_eq h)
     · exact absurd h hs
   clear HG' hs X0 q0 q1 q2 q3 q4 q5 q6 q7 q8 q9 q10 q11
   rcases hcs with hc | hc
   · rw [hc]
     go_wp2
     go_ret
     exact ⟨by rw [HR.out]; rfl, HB⟩
   · rw [hc]
     go_wp2
     go_ret
     exact ⟨by rw [HR.out]; rfl, HB⟩
open Go.ChangeShapes Go.WideShapes Go.ChangeAt Go.RowKit Go.Joins
theorem Tryz.own : ownKnob Tryz.prog.godebug = none := by kernel_rfl
open Go.ChangeShapes Go.WideShapes Go.ChangeAt Go.RowKit Go.Joins
abbrev WdD {H : Type} (a3 a2 a1 a0 : Int) : DataW H := .agg [.lit (.int .u64 a3), .lit (.int .u64 a2), .lit (.int .u64 a1), .lit (.int .u64 a0)]
abbrev PtD {H : Type} (x y z : Int) : DataW H := .agg [WdD (ww3 x) (ww2 x) (ww1 x) (ww0 x), WdD (ww3 y) (ww2 y) (ww1 y) (ww0 y), WdD (ww3 z) (ww2 z) (ww1 z) (ww0 z)]
theorem told_small {z : Int} (h : small z = true) : told z = true := by
 unfold small at h
 unfold told
 simp at h
 apply decide_eq_true
 omega
theorem l3Point_small (s1 : Bool) (o1 : Option Addr) (n1 c1 : Nat) (d1 : List Int) (s2 : Bool) (o2 : Option Addr) (n2 c2 : Nat) (d2 : List Int) (s3 : Bool) (o3 : Option Addr) (n3 c3 : Nat) (d3 : List Int) (x y z : Int) (k : Nat) (hk : k ≤ 100000) (h1 : small x = true) (h2 : small y = true) (h3 : small z = true) (w : World) (N1 : IsNum w s1 o1 n1 c1 d1 x k) (N2 : IsNum w s2 o2 n2 c2 d2 y k) (N3 : IsNum w s3 o3 n3 c3 d3 z k) :
   Calls Tryz.prog 53 #[.agg #[.bool s1, .slice o1 n1 c1, .bool s2, .slice o2 n2 c2, .bool s3, .slice o3 n3 c3]] w (VP (.tuple #[.agg #[.int .u64 (ww3 x), .int .u64 (ww2 x), .int .u64 (ww1 x), .int .u64 (ww0 x), .int .u64 (ww3 y), .int .u64 (ww2 y), .int .u64 (ww1 y), .int .u64 (ww0 y), .int .u64 (ww3 z), .int .u64 (ww2 z), .int .u64 (ww1 z), .int .u64 (ww0 z)], .bool true]) w) := by
 have B0 := (Blk.new w [.bool s1, .slice o1 n1 c1, .bool s2, .slice o2 n2 c2, .bool s3, .slice o3 n3 c3] 92 rfl).alloc (.cells #[.int .u64 0, .int .u64 0, .int .u64 0, .int .u64 0, .int .u64 0, .int .u64 0, .int .u64 0, .int .u64 0, .int .u64 0, .int .u64 0, .int .u64 0, .int .u64 0] 40)
 have B1 := Blk.new (w.alloc (.cells #[.bool s1, .slice o1 n1 c1, .bool s2, .slice o2 n2 c2, .bool s3, .slice o3 n3 c3] 92)) [.int .u64 0, .int .u64 0, .int .u64 0, .int .u64 0, .int .u64 0, .int .u64 0, .int .u64 0, .int .u64 0, .int .u64 0, .int .u64 0, .int .u64 0, .int .u64 0] 40 (g := w.heap.size + 1) (by simp)
 have HB0 : Below w.heap.size w ((w.alloc (.cells #[.bool s1, .slice o1 n1 c1, .bool s2, .slice o2 n2 c2, .bool s3, .slice o3 n3 c3] 92)).alloc (.cells #[.int .u64 0, .int .u64 0, .int .u64 0, .int .u64 0, .int .u64 0, .int .u64 0, .int .u64 0, .int .u64 0, .int .u64 0, .int .u64 0, .int .u64 0, .int .u64 0] 40)) := ((Below.refl _ _).alloc (Nat.le_refl _) _).alloc (by simp) _
 replace N1 := N1.below HB0
 replace N2 := N2.below HB0
 replace N3 := N3.below HB0
 go_enter Tryz.func53, Tryz.ntmps53
 go_wp2_with fail
 refine (l3Small_any s1 o1 n1 c1 d1 s2 o2 n2 c2 d2 s3 o3 n3 c3 d3 x y z k hk _ N1 N2 N3).mono ?_
 rintro e w0 ⟨rfl, hB⟩
 replace B0 := B0.step hB; replace B1 := B1.step hB
 replace N1 := N1.below hB; replace N2 := N2.below hB; replace N3 := N3.below hB
 replace HB0 : Below w.heap.size w w0 := HB0.trans (hB.mono HB0.size)
 rw [h1, h2, h3]
 clear hB
 obtain ⟨e0, e1, e2, e3, e4, e5⟩ := B0.cs6; have elt := B0.lt
 go_wp2_with fail
 refine (toWp_det s1 o1 n1 c1 d1 x k _ N1 (by omega) (told_small h1)).mono ?_
 rintro e w1 ⟨rfl, hB⟩
 replace B0 := B0.step hB; replace B1 := B1.step hB
 replace N2 := N2.below hB
 replace N3 := N3.below hB
 have HB1 : Below w.heap.size w w1 := HB0.trans (hB.mono HB0.size)
 clear hB
 clear e0 e1 e2 e3 e4 e5 elt
 obtain ⟨e0, e1, e2, e3, e4, e5⟩ := B0.cs6; have elt := B0.lt
 have D1 := Blk.new w1 [.int .u64 (ww3 x), .int .u64 (ww2 x), .int .u64 (ww1 x), .int .u64 (ww0 x)] 32 rfl
 replace B0 := B0.alloc (.cells #[.int .u64 (ww3 x), .int .u64 (ww2 x), .int .u64 (ww1 x), .int .u64 (ww0 x)] 32)
 replace B1 := B1.alloc (.cells #[.int .u64 (ww3 x), .int .u64 (ww2 x), .int .u64 (ww1 x), .int .u64 (ww0 x)] 32)
 replace N2 := N2.below ((Below.refl _ _).alloc (Nat.le_refl _) (.cells #[.int .u64 (ww3 x), .int .u64 (ww2 x), .int .u64 (ww1 x), .int .u64 (ww0 x)] 32))
 replace N3 := N3.below ((Below.refl _ _).alloc (Nat.le_refl _) (.cells #[.int .u64 (ww3 x), .int .u64 (ww2 x), .int .u64 (ww1 x), .int .u64 (ww0 x)] 32))
 replace HB1 := HB1.alloc HB1.size (.cells #[.int .u64 (ww3 x), .int .u64 (ww2 x), .int .u64 (ww1 x), .int .u64 (ww0 x)] 32)
 go_wp2_with fail
 refine (toWp_det s2 o2 n2 c2 d2 y k _ N2 (by omega) (told_small h2)).mono ?_
 rintro e w2 ⟨rfl, hB⟩
 replace B0 := B0.step hB; replace B1 := B1.step hB
 replace D1 := D1.step hB
 replace N3 := N3.below hB
 have HB2 : Below w.heap.size w w2 := HB1.trans (hB.mono HB1.size)
 clear hB
 clear e0 e1 e2 e3 e4 e5 elt
 obtain ⟨e0, e1, e2, e3, e4, e5⟩ := B0.cs6; have elt := B0.lt
 have D2 := Blk.new w2 [.int .u64 (ww3 y), .int .u64 (ww2 y), .int .u64 (ww1 y), .int .u64 (ww0 y)] 32 rfl
 replace B0 := B0.alloc (.cells #[.int .u64 (ww3 y), .int .u64 (ww2 y), .int .u64 (ww1 y), .int .u64 (ww0 y)] 32)
 replace B1 := B1.alloc (.cells #[.int .u64 (ww3 y), .int .u64 (ww2 y), .int .u64 (ww1 y), .int .u64 (ww0 y)] 32)
 replace D1 := D1.alloc (.cells #[.int .u64 (ww3 y), .int .u64 (ww2 y), .int .u64 (ww1 y), .int .u64 (ww0 y)] 32)
 replace N3 := N3.below ((Below.refl _ _).alloc (Nat.le_refl _) (.cells #[.int .u64 (ww3 y), .int .u64 (ww2 y), .int .u64 (ww1 y), .int .u64 (ww0 y)] 32))
 replace HB2 := HB2.alloc HB2.size (.cells #[.int .u64 (ww3 y), .int .u64 (ww2 y), .int .u64 (ww1 y), .int .u64 (ww0 y)] 32)
 go_wp2_with fail
 refine (toWp_det s3 o3 n3 c3 d3 z k _ N3 (by omega) (told_small h3)).mono ?_
 rintro e w3 ⟨rfl, hB⟩
 replace B0 := B0.step hB; replace B1 := B1.step hB
 replace D1 := D1.step hB
 replace D2 := D2.step hB
 have HB3 : Below w.heap.size w w3 := HB2.trans (hB.mono HB2.size)
 clear hB
 clear e0 e1 e2 e3 e4 e5 elt
 obtain ⟨p0, p1, p2, p3⟩ := D1.cs4; have pl := D1.lt; obtain ⟨q0, q1, q2, q3⟩ := D2.cs4; have ql := D2.lt; obtain ⟨tc0, tf0, tc1, tf1, tc2, tf2, tc3, tf3, tc4, tf4, tc5, tf5, tc6, tf6, tc7, tf7, tc8, tf8, tc9, tf9, tc10, tf10, tc11, tf11⟩ := B1.cf12; have tl := B1.lt
 have F : Blk (((((((((((((w3.setCell ⟨w.heap.size + 1, 0, none⟩ (.int .u64 (ww3 x))).setCell ⟨w.heap.size + 1, 1, none⟩ (.int .u64 (ww2 x))).setCell ⟨w.heap.size + 1, 2, none⟩ (.int .u64 (ww1 x))).setCell ⟨w.heap.size + 1, 3, none⟩ (.int .u64 (ww0 x))).setCell ⟨w.heap.size + 1, 4, none⟩ (.int .u64 (ww3 y))).setCell ⟨w.heap.size + 1, 5, none⟩ (.int .u64 (ww2 y))).setCell ⟨w.heap.size + 1, 6, none⟩ (.int .u64 (ww1 y))).setCell ⟨w.heap.size + 1, 7, none⟩ (.int .u64 (ww0 y))).setCell ⟨w.heap.size + 1, 8, none⟩ (.int .u64 (ww3 z))).setCell ⟨w.heap.size + 1, 9, none⟩ (.int .u64 (ww2 z))).setCell ⟨w.heap.size + 1, 10, none⟩ (.int .u64 (ww1 z))).setCell ⟨w.heap.size + 1, 11, none⟩ (.int .u64 (ww0 z))).alloc (.cells #[.int .u64 (ww3 z), .int .u64 (ww2 z), .int .u64 (ww1 z), .int .u64 (ww0 z)] 32)) (w.heap.size + 1) [.int .u64 (ww3 x), .int .u64 (ww2 x), .int .u64 (ww1 x), .int .u64 (ww0 x), .int .u64 (ww3 y), .int .u64 (ww2 y), .int .u64 (ww1 y), .int .u64 (ww0 y), .int .u64 (ww3 z), .int .u64 (ww2 z), .int .u64 (ww1 z), .int .u64 (ww0 z)] := ((((((((((((((B1.setI 0 (by simp) (.int .u64 (ww3 x))).setI 1 (by simp) (.int .u64 (ww2 x))).setI 2 (by simp) (.int .u64 (ww1 x))).setI 3 (by simp) (.int .u64 (ww0 x))).setI 4 (by simp) (.int .u64 (ww3 y))).setI 5 (by simp) (.int .u64 (ww2 y))).setI 6 (by simp) (.int .u64 (ww1 y))).setI 7 (by simp) (.int .u64 (ww0 y))).setI 8 (by simp) (.int .u64 (ww3 z))).setI 9 (by simp) (.int .u64 (ww2 z))).setI 10 (by simp) (.int .u64 (ww1 z))).setI 11 (by simp) (.int .u64 (ww0 z)))).alloc _)
 have HBF : Below w.heap.size w (((((((((((((w3.setCell ⟨w.heap.size + 1, 0, none⟩ (.int .u64 (ww3 x))).setCell ⟨w.heap.size + 1, 1, none⟩ (.int .u64 (ww2 x))).setCell ⟨w.heap.size + 1, 2, none⟩ (.int .u64 (ww1 x))).setCell ⟨w.heap.size + 1, 3, none⟩ (.int .u64 (ww0 x))).setCell ⟨w.heap.size + 1, 4, none⟩ (.int .u64 (ww3 y))).setCell ⟨w.heap.size + 1, 5, none⟩ (.int .u64 (ww2 y))).setCell ⟨w.heap.size + 1, 6, none⟩ (.int .u64 (ww1 y))).setCell ⟨w.heap.size + 1, 7, none⟩ (.int .u64 (ww0 y))).setCell ⟨w.heap.size + 1, 8, none⟩ (.int .u64 (ww3 z))).setCell ⟨w.heap.size + 1, 9, none⟩ (.int .u64 (ww2 z))).setCell ⟨w.heap.size + 1, 10, none⟩ (.int .u64 (ww1 z))).setCell ⟨w.heap.size + 1, 11, none⟩ (.int .u64 (ww0 z))).alloc (.cells #[.int .u64 (ww3 z), .int .u64 (ww2 z), .int .u64 (ww1 z), .int .u64 (ww0 z)] 32)) := (by refine Below.alloc ?_ (by have := HB3.size; simpa [World.setCell] using this) _; exact ((((((((((((HB3.setCell (p := ⟨w.heap.size + 1, 0, none⟩) (by simp) (.int .u64 (ww3 x))).setCell (p := ⟨w.heap.size + 1, 1, none⟩) (by simp) (.int .u64 (ww2 x))).setCell (p := ⟨w.heap.size + 1, 2, none⟩) (by simp) (.int .u64 (ww1 x))).setCell (p := ⟨w.heap.size + 1, 3, none⟩) (by simp) (.int .u64 (ww0 x))).setCell (p := ⟨w.heap.size + 1, 4, none⟩) (by simp) (.int .u64 (ww3 y))).setCell (p := ⟨w.heap.size + 1, 5, none⟩) (by simp) (.int .u64 (ww2 y))).setCell (p := ⟨w.heap.size + 1, 6, none⟩) (by simp) (.int .u64 (ww1 y))).setCell (p := ⟨w.heap.size + 1, 7, none⟩) (by simp) (.int .u64 (ww0 y))).setCell (p := ⟨w.heap.size + 1, 8, none⟩) (by simp) (.int .u64 (ww3 z))).setCell (p := ⟨w.heap.size + 1, 9, none⟩) (by simp) (.int .u64 (ww2 z))).setCell (p := ⟨w.heap.size + 1, 10, none⟩) (by simp) (.int .u64 (ww1 z))).setCell (p := ⟨w.heap.size + 1, 11, none⟩) (by simp) (.int .u64 (ww0 z))))
 clear B0 B1 D1 D2
 go_wp2
 generalize (((((((((((((w3.setCell ⟨w.heap.size + 1, 0, none⟩ (.int .u64 (ww3 x))).setCell ⟨w.heap.size + 1, 1, none⟩ (.int .u64 (ww2 x))).setCell ⟨w.heap.size + 1, 2, none⟩ (.int .u64 (ww1 x))).setCell ⟨w.heap.size + 1, 3, none⟩ (.int .u64 (ww0 x))).setCell ⟨w.heap.size + 1, 4, none⟩ (.int .u64 (ww3 y))).setCell ⟨w.heap.size + 1, 5, none⟩ (.int .u64 (ww2 y))).setCell ⟨w.heap.size + 1, 6, none⟩ (.int .u64 (ww1 y))).setCell ⟨w.heap.size + 1, 7, none⟩ (.int .u64 (ww0 y))).setCell ⟨w.heap.size + 1, 8, none⟩ (.int .u64 (ww3 z))).setCell ⟨w.heap.size + 1, 9, none⟩ (.int .u64 (ww2 z))).setCell ⟨w.heap.size + 1, 10, none⟩ (.int .u64 (ww1 z))).setCell ⟨w.heap.size + 1, 11, none⟩ (.int .u64 (ww0 z))).alloc (.cells #[.int .u64 (ww3 z), .int .u64 (ww2 z), .int .u64 (ww1 z), .int .u64 (ww0 z)] 32)) = WF at *
 obtain ⟨u0, u1, u2, u3, u4, u5, u6, u7, u8, u9, u10, u11⟩ := F.cs12
 refine bodyPost_ret (v := .tuple #[.agg #[.int .u64 (ww3 x), .int .u64 (ww2 x), .int .u64 (ww1 x), .int .u64 (ww0 x), .int .u64 (ww3 y), .int .u64 (ww2 y), .int .u64 (ww1 y), .int .u64 (ww0 y), .int .u64 (ww3 z), .int .u64 (ww2 z), .int .u64 (ww1 z), .int .u64 (ww0 z)], .bool true]) (by simp [results, Tryz.results53, go_sem, u0, u1, u2, u3, u4, u5, u6, u7, u8, u9, u10, u11]) rfl ?_
 exact ⟨rfl, HBF⟩
theorem small_int {x : Int} (h0 : -9223372036854775808 ≤ x) (h1 : x ≤ 9223372036854775807) : small x = true := by
 unfold small
 apply decide_eq_true
 omega
theorem ip_cells {x y : Int} {w W : World} (h : ArgsB w W [[.int .i64 x, .int .i64 y], [.int .u64 0, .int .u64 0, .int .u64 0, .int .u64 0, .int .u64 0, .int .u64 0, .int .u64 0, .int .u64 0, .int .u64 0, .int .u64 0, .int .u64 0, .int .u64 0]]) : (fun w' => w'.cell? ⟨w.heap.size, 0, none⟩ = some (.int .i64 x) ∧ w'.cell? ⟨w.heap.size, 1, none⟩ = some (.int .i64 y)) W := ⟨(h.b 0 rfl).c 0 rfl, (h.b 0 rfl).c 1 rfl⟩
theorem ip_cells12 {x y : Int} {w W : World} {v0 v1 v2 v3 v4 v5 v6 v7 v8 v9 v10 v11 : Value} (h : ArgsB w W [[.int .i64 x, .int .i64 y], [.int .u64 0, .int .u64 0, .int .u64 0, .int .u64 0, .int .u64 0, .int .u64 0, .int .u64 0, .int .u64 0, .int .u64 0, .int .u64 0, .int .u64 0, .int .u64 0]]) : (fun w' => w'.cell? ⟨w.heap.size, 0, none⟩ = some (.int .i64 x) ∧ w'.cell? ⟨w.heap.size, 1, none⟩ = some (.int .i64 y)) ((((((((((((W.setCell ⟨w.heap.size + 1, 0, none⟩ v0).setCell ⟨w.heap.size + 1, 1, none⟩ v1).setCell ⟨w.heap.size + 1, 2, none⟩ v2).setCell ⟨w.heap.size + 1, 3, none⟩ v3).setCell ⟨w.heap.size + 1, 4, none⟩ v4).setCell ⟨w.heap.size + 1, 5, none⟩ v5).setCell ⟨w.heap.size + 1, 6, none⟩ v6).setCell ⟨w.heap.size + 1, 7, none⟩ v7).setCell ⟨w.heap.size + 1, 8, none⟩ v8).setCell ⟨w.heap.size + 1, 9, none⟩ v9).setCell ⟨w.heap.size + 1, 10, none⟩ v10).setCell ⟨w.heap.size + 1, 11, none⟩ v11) := by
 have a : Blk _ (w.heap.size + 0) _ := (((((((((((((h.b 0 rfl).setO (p := ⟨w.heap.size + 1, 0, none⟩) (by show w.heap.size + 0 ≠ w.heap.size + 1; omega) v0).setO (p := ⟨w.heap.size + 1, 1, none⟩) (by show w.heap.size + 0 ≠ w.heap.size + 1; omega) v1).setO (p := ⟨w.heap.size + 1, 2, none⟩) (by show w.heap.size + 0 ≠ w.heap.size + 1; omega) v2).setO (p := ⟨w.heap.size + 1, 3, none⟩) (by show w.heap.size + 0 ≠ w.heap.size + 1; omega) v3).setO (p := ⟨w.heap.size + 1, 4, none⟩) (by show w.heap.size + 0 ≠ w.heap.size + 1; omega) v4).setO (p := ⟨w.heap.size + 1, 5, none⟩) (by show w.heap.size + 0 ≠ w.heap.size + 1; omega) v5).setO (p := ⟨w.heap.size + 1, 6, none⟩) (by show w.heap.size + 0 ≠ w.heap.size + 1; omega) v6).setO (p := ⟨w.heap.size + 1, 7, none⟩) (by show w.heap.size + 0 ≠ w.heap.size + 1; omega) v7).setO (p := ⟨w.heap.size + 1, 8, none⟩) (by show w.heap.size + 0 ≠ w.heap.size + 1; omega) v8).setO (p := ⟨w.heap.size + 1, 9, none⟩) (by show w.heap.size + 0 ≠ w.heap.size + 1; omega) v9).setO (p := ⟨w.heap.size + 1, 10, none⟩) (by show w.heap.size + 0 ≠ w.heap.size + 1; omega) v10).setO (p := ⟨w.heap.size + 1, 11, none⟩) (by show w.heap.size + 0 ≠ w.heap.size + 1; omega) v11)
 exact ⟨a.c 0 rfl, a.c 1 rfl⟩
theorem ip_start (x y : Int) (w : World) : ArgsB w ((w.alloc (.cells #[.int .i64 x, .int .i64 y] 25)).alloc (.cells #[.int .u64 0, .int .u64 0, .int .u64 0, .int .u64 0, .int .u64 0, .int .u64 0, .int .u64 0, .int .u64 0, .int .u64 0, .int .u64 0, .int .u64 0, .int .u64 0] 40)) [[.int .i64 x, .int .i64 y], [.int .u64 0, .int .u64 0, .int .u64 0, .int .u64 0, .int .u64 0, .int .u64 0, .int .u64 0, .int .u64 0, .int .u64 0, .int .u64 0, .int .u64 0, .int .u64 0]] := by
 refine ⟨((Below.refl _ _).alloc (Nat.le_refl _) _).alloc (by simp) _, fun j vs hj => ?_⟩
 match j, hj with
 | 0, hj => cases hj; exact (Blk.new w [.int .i64 x, .int .i64 y] 25 rfl).alloc _
 | 1, hj => cases hj; exact Blk.new (w.alloc (.cells #[.int .i64 x, .int .i64 y] 25)) [.int .u64 0, .int .u64 0, .int .u64 0, .int .u64 0, .int .u64 0, .int .u64 0, .int .u64 0, .int .u64 0, .int .u64 0, .int .u64 0, .int .u64 0, .int .u64 0] 40 (by simp)
 | j + 2, hj => simp at hj
theorem implPointOf_any (x y : Int) (hx0 : -9223372036854775808 ≤ x) (hx1 : x ≤ 9223372036854775807) (hy0 : -9223372036854775808 ≤ y) (hy1 : y ≤ 9223372036854775807) (w : World) :
   Calls Tryz.prog 11 #[.agg #[.int .i64 x, .int .i64 y]] w (VP (.agg #[.int .u64 (ww3 x), .int .u64 (ww2 x), .int .u64 (ww1 x), .int .u64 (ww0 x), .int .u64 (ww3 y), .int .u64 (ww2 y), .int .u64 (ww1 y), .int .u64 (ww0 y), .int .u64 (ww3 1), .int .u64 (ww2 1), .int .u64 (ww1 1), .int .u64 (ww0 1)]) w) := by
 have T0 := ip_start x y w
 have tok1 : True := trivial
 have tok2 : True := trivial
 go_enter Tryz.func11, Tryz.ntmps11
 go_upto_region 1 with fail
 generalize ((w.alloc (.cells #[.int .i64 x, .int .i64 y] 25)).alloc (.cells #[.int .u64 0, .int .u64 0, .int .u64 0, .int .u64 0, .int .u64 0, .int .u64 0, .int .u64 0, .int .u64 0, .int .u64 0, .int .u64 0, .int .u64 0, .int .u64 0] 40)) = W at *
 go_region_held3 (fun w' => w'.cell? ⟨w.heap.size, 0, none⟩ = some (.int .i64 x) ∧ w'.cell? ⟨w.heap.size, 1, none⟩ = some (.int .i64 y)) (first | (with_reducible exact ip_cells T0) | (with_reducible exact ip_cells T0.drew) | (with_reducible exact ip_cells12 T0))
   (first
     | (go_at_call 30; have _t := tok1; refine (implOf_det x _ hx0 hx1).mono ?_; rintro e w1 ⟨rfl, hB⟩; (first | (have T1 := T0.step hB) | (have T1 := T0.drew.step hB)); clear T0; have T0 := T1; clear T1; clear tok1 _t hB)
     | (go_at_call 30; have _t := tok2; refine (implOf_det y _ hy0 hy1).mono ?_; rintro e w2 ⟨rfl, hB⟩; (first | (have T1 := T0.step hB) | (have T1 := T0.drew.step hB)); clear T0; have T0 := T1; clear T1; clear tok2 _t hB)
     | (go_at_call 30; refine (implOf_det 1 _ (by decide) (by decide)).mono ?_; rintro e w3 ⟨rfl, hB⟩; (first | (have T1 := T0.step hB) | (have T1 := T0.drew.step hB)); clear T0; have T0 := T1; clear T1; have tc0 := (T0.b 1 rfl).c 0 rfl; have tf0 := (T0.b 1 rfl).f 0 rfl; have tc1 := (T0.b 1 rfl).c 1 rfl; have tf1 := (T0.b 1 rfl).f 1 rfl; have tc2 := (T0.b 1 rfl).c 2 rfl; have tf2 := (T0.b 1 rfl).f 2 rfl; have tc3 := (T0.b 1 rfl).c 3 rfl; have tf3 := (T0.b 1 rfl).f 3 rfl; have tc4 := (T0.b 1 rfl).c 4 rfl; have tf4 := (T0.b 1 rfl).f 4 rfl; have tc5 := (T0.b 1 rfl).c 5 rfl; have tf5 := (T0.b 1 rfl).f 5 rfl; have tc6 := (T0.b 1 rfl).c 6 rfl; have tf6 := (T0.b 1 rfl).f 6 rfl; have tc7 := (T0.b 1 rfl).c 7 rfl; have tf7 := (T0.b 1 rfl).f 7 rfl; have tc8 := (T0.b 1 rfl).c 8 rfl; have tf8 := (T0.b 1 rfl).f 8 rfl; have tc9 := (T0.b 1 rfl).c 9 rfl; have tf9 := (T0.b 1 rfl).f 9 rfl; have tc10 := (T0.b 1 rfl).c 10 rfl; have tf10 := (T0.b 1 rfl).f 10 rfl; have tc11 := (T0.b 1 rfl).c 11 rfl; have tf11 := (T0.b 1 rfl).f 11 rfl; have tl := (T0.b 1 rfl).lt; clear hB))
 all_goals have F : Blk (((((((((((((w3.setCell ⟨w.heap.size + 1, 0, none⟩ (.int .u64 (ww3 x))).setCell ⟨w.heap.size + 1, 1, none⟩ (.int .u64 (ww2 x))).setCell ⟨w.heap.size + 1, 2, none⟩ (.int .u64 (ww1 x))).setCell ⟨w.heap.size + 1, 3, none⟩ (.int .u64 (ww0 x))).setCell ⟨w.heap.size + 1, 4, none⟩ (.int .u64 (ww3 y))).setCell ⟨w.heap.size + 1, 5, none⟩ (.int .u64 (ww2 y))).setCell ⟨w.heap.size + 1, 6, none⟩ (.int .u64 (ww1 y))).setCell ⟨w.heap.size + 1, 7, none⟩ (.int .u64 (ww0 y))).setCell ⟨w.heap.size + 1, 8, none⟩ (.int .u64 (ww3 1))).setCell ⟨w.heap.size + 1, 9, none⟩ (.int .u64 (ww2 1))).setCell ⟨w.heap.size + 1, 10, none⟩ (.int .u64 (ww1 1))).setCell ⟨w.heap.size + 1, 11, none⟩ (.int .u64 (ww0 1)))) (w.heap.size + 1) [.int .u64 (ww3 x), .int .u64 (ww2 x), .int .u64 (ww1 x), .int .u64 (ww0 x), .int .u64 (ww3 y), .int .u64 (ww2 y), .int .u64 (ww1 y), .int .u64 (ww0 y), .int .u64 (ww3 1), .int .u64 (ww2 1), .int .u64 (ww1 1), .int .u64 (ww0 1)] := ((((((((((((((T0.b 1 rfl).setI 0 (by simp) (.int .u64 (ww3 x))).setI 1 (by simp) (.int .u64 (ww2 x))).setI 2 (by simp) (.int .u64 (ww1 x))).setI 3 (by simp) (.int .u64 (ww0 x))).setI 4 (by simp) (.int .u64 (ww3 y))).setI 5 (by simp) (.int .u64 (ww2 y))).setI 6 (by simp) (.int .u64 (ww1 y))).setI 7 (by simp) (.int .u64 (ww0 y))).setI 8 (by simp) (.int .u64 (ww3 1))).setI 9 (by simp) (.int .u64 (ww2 1))).setI 10 (by simp) (.int .u64 (ww1 1))).setI 11 (by simp) (.int .u64 (ww0 1))))
 all_goals have HBF : Below w.heap.size w (((((((((((((w3.setCell ⟨w.heap.size + 1, 0, none⟩ (.int .u64 (ww3 x))).setCell ⟨w.heap.size + 1, 1, none⟩ (.int .u64 (ww2 x))).setCell ⟨w.heap.size + 1, 2, none⟩ (.int .u64 (ww1 x))).setCell ⟨w.heap.size + 1, 3, none⟩ (.int .u64 (ww0 x))).setCell ⟨w.heap.size + 1, 4, none⟩ (.int .u64 (ww3 y))).setCell ⟨w.heap.size + 1, 5, none⟩ (.int .u64 (ww2 y))).setCell ⟨w.heap.size + 1, 6, none⟩ (.int .u64 (ww1 y))).setCell ⟨w.heap.size + 1, 7, none⟩ (.int .u64 (ww0 y))).setCell ⟨w.heap.size + 1, 8, none⟩ (.int .u64 (ww3 1))).setCell ⟨w.heap.size + 1, 9, none⟩ (.int .u64 (ww2 1))).setCell ⟨w.heap.size + 1, 10, none⟩ (.int .u64 (ww1 1))).setCell ⟨w.heap.size + 1, 11, none⟩ (.int .u64 (ww0 1)))) := (((((((((((((T0.below.setCell (p := ⟨w.heap.size + 1, 0, none⟩) (by simp) (.int .u64 (ww3 x))).setCell (p := ⟨w.heap.size + 1, 1, none⟩) (by simp) (.int .u64 (ww2 x))).setCell (p := ⟨w.heap.size + 1, 2, none⟩) (by simp) (.int .u64 (ww1 x))).setCell (p := ⟨w.heap.size + 1, 3, none⟩) (by simp) (.int .u64 (ww0 x))).setCell (p := ⟨w.heap.size + 1, 4, none⟩) (by simp) (.int .u64 (ww3 y))).setCell (p := ⟨w.heap.size + 1, 5, none⟩) (by simp) (.int .u64 (ww2 y))).setCell (p := ⟨w.heap.size + 1, 6, none⟩) (by simp) (.int .u64 (ww1 y))).setCell (p := ⟨w.heap.size + 1, 7, none⟩) (by simp) (.int .u64 (ww0 y))).setCell (p := ⟨w.heap.size + 1, 8, none⟩) (by simp) (.int .u64 (ww3 1))).setCell (p := ⟨w.heap.size + 1, 9, none⟩) (by simp) (.int .u64 (ww2 1))).setCell (p := ⟨w.heap.size + 1, 10, none⟩) (by simp) (.int .u64 (ww1 1))).setCell (p := ⟨w.heap.size + 1, 11, none⟩) (by simp) (.int .u64 (ww0 1))))
 all_goals clear T0
 all_goals go_wp2
 all_goals generalize (((((((((((((w3.setCell ⟨w.heap.size + 1, 0, none⟩ (.int .u64 (ww3 x))).setCell ⟨w.heap.size + 1, 1, none⟩ (.int .u64 (ww2 x))).setCell ⟨w.heap.size + 1, 2, none⟩ (.int .u64 (ww1 x))).setCell ⟨w.heap.size + 1, 3, none⟩ (.int .u64 (ww0 x))).setCell ⟨w.heap.size + 1, 4, none⟩ (.int .u64 (ww3 y))).setCell ⟨w.heap.size + 1, 5, none⟩ (.int .u64 (ww2 y))).setCell ⟨w.heap.size + 1, 6, none⟩ (.int .u64 (ww1 y))).setCell ⟨w.heap.size + 1, 7, none⟩ (.int .u64 (ww0 y))).setCell ⟨w.heap.size + 1, 8, none⟩ (.int .u64 (ww3 1))).setCell ⟨w.heap.size + 1, 9, none⟩ (.int .u64 (ww2 1))).setCell ⟨w.heap.size + 1, 10, none⟩ (.int .u64 (ww1 1))).setCell ⟨w.heap.size + 1, 11, none⟩ (.int .u64 (ww0 1)))) = WF at *
 all_goals (obtain ⟨u0, u1, u2, u3, u4, u5, u6, u7, u8, u9, u10, u11⟩ := F.cs12)
 all_goals refine bodyPost_ret (v := .agg #[.int .u64 (ww3 x), .int .u64 (ww2 x), .int .u64 (ww1 x), .int .u64 (ww0 x), .int .u64 (ww3 y), .int .u64 (ww2 y), .int .u64 (ww1 y), .int .u64 (ww0 y), .int .u64 (ww3 1), .int .u64 (ww2 1), .int .u64 (ww1 1), .int .u64 (ww0 1)]) (by simp [results, Tryz.results11, go_sem, u0, u1, u2, u3, u4, u5, u6, u7, u8, u9, u10, u11]) rfl ?_
 all_goals exact ⟨rfl, HBF⟩
abbrev Sp (x y : Int) : Value := .agg #[.int .i64 x, .int .i64 y]
def spotOk (x y : Int) : Bool := decide (-1000000 ≤ x ∧ x ≤ 1000000 ∧ -1000000 ≤ y ∧ y ≤ 1000000)
theorem l1In_any (x a b : Int) (c : Bool) (hc : decide (a ≤ x ∧ x ≤ b) = c) (w : World) : Calls Tryz.prog 65 #[.int .i64 x, .int .i64 a, .int .i64 b] w (BoolP c w) := by
 go_enter Tryz.func65, Tryz.ntmps65
 go_wp2
 all_goals go_ret
 all_goals exact ⟨ret_bool (by subst hc; simp; try omega), Below.refl _ _⟩
theorem implSpotOk_any (x y : Int) (c : Bool) (hc : spotOk x y = c) (w : World) : Calls Tryz.prog 10 #[Sp x y] w (BoolP c w) := by
 go_enter Tryz.func10, Tryz.ntmps10
 go_wp2
 all_goals go_ret
 all_goals exact ⟨ret_bool (by subst hc; unfold spotOk; simp [*]; try omega), (Below.refl _ _).alloc (Nat.le_refl _) _⟩
theorem specSpotOk_any (x y : Int) (c : Bool) (hc : spotOk x y = c) (w : World) : Calls Tryz.prog 35 #[Sp x y] w (BoolP c w) := by
 by_cases hx : -1000000 ≤ x ∧ x ≤ 1000000
 · go_enter Tryz.func35, Tryz.ntmps35
   go_wp2_with fail
   refine (l1In_any _ _ _ true (by simpa using hx) _).mono ?_
   rintro e w1 ⟨rfl, hB⟩
   obtain ⟨hq, _⟩ := bcell hB
   have HB : Below w.heap.size w w1 := ((Below.refl _ _).alloc (Nat.le_refl _) _).trans (hB.mono (by simp))
   clear hB
   go_wp2_with fail
   refine (l1In_any _ _ _ c (by subst hc; unfold spotOk; simp [hx]) _).mono ?_
   rintro e w2 ⟨rfl, hB⟩
   go_wp2
   go_ret
   exact ⟨rfl, HB.trans (hB.mono HB.size)⟩
 · go_enter Tryz.func35, Tryz.ntmps35
   go_wp2_with fail
   refine (l1In_any _ _ _ false (by simpa using hx) _).mono ?_
   rintro e w1 ⟨rfl, hB⟩
   have HB : Below w.heap.size w w1 := ((Below.refl _ _).alloc (Nat.le_refl _) _).trans (hB.mono (by simp))
   clear hB
   go_wp2
   go_ret
   exact ⟨ret_bool (by subst hc; unfold spotOk; simp; omega), HB⟩
def lessI (x y u v : Int) : Bool := decide (x < u ∨ x = u ∧ y < v)
theorem l4Less_any (x y u v : Int) (c : Bool) (hc : lessI x y u v = c) (w : World) : Calls Tryz.prog 64 #[Sp x y, Sp u v] w (BoolP c w) := by
 go_enter Tryz.func64, Tryz.ntmps64
 go_wp2
 all_goals go_ret
 all_goals exact ⟨ret_bool (by subst hc; unfold lessI; simp [*]; try omega), ((Below.refl _ _).alloc (Nat.le_refl _) _).alloc (by simp) _⟩
theorem isAhead_any (x y u v : Int) (c : Bool) (hc : lessI x y u v = c) (w : World) : Calls Tryz.prog 38 #[Sp x y, Sp u v] w (BoolP c w) := by
 go_enter Tryz.func38, Tryz.ntmps38
 go_wp2
 all_goals go_ret
 all_goals exact ⟨ret_bool (by subst hc; unfold lessI; simp [*]; try omega), ((Below.refl _ _).alloc (Nat.le_refl _) _).alloc (by simp) _⟩
abbrev Sg (a b c d : Int) : Value := .agg #[.int .i64 a, .int .i64 b, .int .i64 c, .int .i64 d]
structure Quad (W : World) (g : Nat) (v0 v1 v2 v3 : Value) : Prop where
 c0 : W.cell? ⟨g, 0, none⟩ = some v0
 c1 : W.cell? ⟨g, 1, none⟩ = some v1
 c2 : W.cell? ⟨g, 2, none⟩ = some v2
 c3 : W.cell? ⟨g, 3, none⟩ = some v3
 f0 : W.frozen? ⟨g, 0, none⟩ = false
 f1 : W.frozen? ⟨g, 1, none⟩ = false
 f2 : W.frozen? ⟨g, 2, none⟩ = false
 f3 : W.frozen? ⟨g, 3, none⟩ = false
 lt : g < W.heap.size
theorem Quad.below {W W' : World} {B g : Nat} {v0 v1 v2 v3 : Value} (h : Quad W g v0 v1 v2 v3) (hB : Below B W W') (hg : g < B) : Quad W' g v0 v1 v2 v3 :=
 ⟨(hB.cell (p := ⟨g, 0, none⟩) hg).trans h.c0, (hB.cell (p := ⟨g, 1, none⟩) hg).trans h.c1, (hB.cell (p := ⟨g, 2, none⟩) hg).trans h.c2, (hB.cell (p := ⟨g, 3, none⟩) hg).trans h.c3,
  (hB.frozen (p := ⟨g, 0, none⟩) hg).trans h.f0, (hB.frozen (p := ⟨g, 1, none⟩) hg).trans h.f1, (hB.frozen (p := ⟨g, 2, none⟩) hg).trans h.f2, (hB.frozen (p := ⟨g, 3, none⟩) hg).trans h.f3, Nat.lt_of_lt_of_le h.lt hB.size⟩
theorem Quad.new (W : World) (v0 v1 v2 v3 : Value) (t : TypeId) {g : Nat} (hg : g = W.heap.size) : Quad (W.alloc (.cells #[v0, v1, v2, v3] t)) g v0 v1 v2 v3 := by
 subst hg
 constructor <;> simp [go_sem]
def segOk (a b c d : Int) : Bool := spotOk a b && spotOk c d && lessI a b c d
theorem specSegOk_any (a b c d : Int) (z : Bool) (hz : segOk a b c d = z) (w : World) : Calls Tryz.prog 34 #[Sg a b c d] w (BoolP z w) := by
 have HB0 : Below w.heap.size w (w.alloc (.cells #[.int .i64 a, .int .i64 b, .int .i64 c, .int .i64 d] 27)) := (Below.refl _ _).alloc (Nat.le_refl _) _
 by_cases hx : spotOk a b = true
 · by_cases hy : spotOk c d = true
   · go_enter Tryz.func34, Tryz.ntmps34
     go_wp2_with fail
     refine (specSpotOk_any _ _ true hx _).mono ?_
     rintro e w1 ⟨rfl, hB⟩
     have HB : Below w.heap.size w w1 := HB0.trans (hB.mono (by simp))
     have q0 : Quad w1 w.heap.size _ _ _ _ := (Quad.new w (.int .i64 a) (.int .i64 b) (.int .i64 c) (.int .i64 d) _ rfl).below hB (by simp)
     obtain ⟨q00, q01, q02, q03, -, -, -, -, q08⟩ := id q0
     clear hB
     go_wp2_with fail
     refine (specSpotOk_any _ _ true hy _).mono ?_
     rintro e w2 ⟨rfl, hB⟩
     have HB2 : Below w.heap.size w w2 := HB.trans (hB.mono HB.size)
     have q2 := q0.below hB q0.lt
     clear q00 q01 q02 q03 q08
     obtain ⟨q00, q01, q02, q03, -, -, -, -, q08⟩ := q2
     clear hB HB
     go_wp2_with fail
     refine (l4Less_any _ _ _ _ z (by rw [← hz]; simp [segOk, hx, hy]) _).mono ?_
     rintro e w3 ⟨rfl, hB⟩
     go_wp2
     go_ret
     exact ⟨rfl, HB2.trans (hB.mono HB2.size)⟩
   · have hy := Bool.eq_false_iff.2 hy
     go_enter Tryz.func34, Tryz.ntmps34
     go_wp2_with fail
     refine (specSpotOk_any _ _ true hx _).mono ?_
     rintro e w1 ⟨rfl, hB⟩
     have HB : Below w.heap.size w w1 := HB0.trans (hB.mono (by simp))
     have q0 : Quad w1 w.heap.size _ _ _ _ := (Quad.new w (.int .i64 a) (.int .i64 b) (.int .i64 c) (.int .i64 d) _ rfl).below hB (by simp)
     obtain ⟨q00, q01, q02, q03, -, -, -, -, q08⟩ := id q0
     clear hB
     go_wp2_with fail
     refine (specSpotOk_any _ _ false hy _).mono ?_
     rintro e w2 ⟨rfl, hB⟩
     have HB2 : Below w.heap.size w w2 := HB.trans (hB.mono HB.size)
     clear hB HB
     go_wp2
     go_ret
     exact ⟨ret_bool (by rw [← hz]; simp [segOk, hx, hy]), HB2⟩
 · have hx := Bool.eq_false_iff.2 hx
   go_enter Tryz.func34, Tryz.ntmps34
   go_wp2_with fail
   refine (specSpotOk_any _ _ false hx _).mono ?_
   rintro e w1 ⟨rfl, hB⟩
   have HB : Below w.heap.size w w1 := HB0.trans (hB.mono (by simp))
   clear hB
   go_wp2
   go_ret
   exact ⟨ret_bool (by rw [← hz]; simp [segOk, hx]), HB⟩
theorem implSegOk_any (a b c d : Int) (z : Bool) (hz : segOk a b c d = z) (w : World) : Calls Tryz.prog 9 #[Sg a b c d] w (BoolP z w) := by
 have HB0 : Below w.heap.size w (w.alloc (.cells #[.int .i64 a, .int .i64 b, .int .i64 c, .int .i64 d] 27)) := (Below.refl _ _).alloc (Nat.le_refl _) _
 by_cases hx : spotOk a b = true
 · by_cases hy : spotOk c d = true
   · go_enter Tryz.func9, Tryz.ntmps9
     go_wp2_with fail
     refine (implSpotOk_any _ _ true hx _).mono ?_
     rintro e w1 ⟨rfl, hB⟩
     have HB : Below w.heap.size w w1 := HB0.trans (hB.mono (by simp))
     have q0 : Quad w1 w.heap.size _ _ _ _ := (Quad.new w (.int .i64 a) (.int .i64 b) (.int .i64 c) (.int .i64 d) _ rfl).below hB (by simp)
     obtain ⟨q00, q01, q02, q03, -, -, -, -, q08⟩ := id q0
     clear hB
     go_wp2_with fail
     refine (implSpotOk_any _ _ true hy _).mono ?_
     rintro e w2 ⟨rfl, hB⟩
     have HB2 : Below w.heap.size w w2 := HB.trans (hB.mono HB.size)
     have q2 := q0.below hB q0.lt
     clear q00 q01 q02 q03 q08
     obtain ⟨q00, q01, q02, q03, -, -, -, -, q08⟩ := q2
     clear hB HB
     go_wp2_with fail
     refine (isAhead_any _ _ _ _ z (by rw [← hz]; simp [segOk, hx, hy]) _).mono ?_
     rintro e w3 ⟨rfl, hB⟩
     go_wp2
     go_ret
     exact ⟨rfl, HB2.trans (hB.mono HB2.size)⟩
   · have hy := Bool.eq_false_iff.2 hy
     go_enter Tryz.func9, Tryz.ntmps9
     go_wp2_with fail
     refine (implSpotOk_any _ _ true hx _).mono ?_
     rintro e w1 ⟨rfl, hB⟩
     have HB : Below w.heap.size w w1 := HB0.trans (hB.mono (by simp))
     have q0 : Quad w1 w.heap.size _ _ _ _ := (Quad.new w (.int .i64 a) (.int .i64 b) (.int .i64 c) (.int .i64 d) _ rfl).below hB (by simp)
     obtain ⟨q00, q01, q02, q03, -, -, -, -, q08⟩ := id q0
     clear hB
     go_wp2_with fail
     refine (implSpotOk_any _ _ false hy _).mono ?_
     rintro e w2 ⟨rfl, hB⟩
     have HB2 : Below w.heap.size w w2 := HB.trans (hB.mono HB.size)
     clear hB HB
     go_wp2
     go_ret
     exact ⟨ret_bool (by rw [← hz]; simp [segOk, hx, hy]), HB2⟩
 · have hx := Bool.eq_false_iff.2 hx
   go_enter Tryz.func9, Tryz.ntmps9
   go_wp2_with fail
   refine (implSpotOk_any _ _ false hx _).mono ?_
   rintro e w1 ⟨rfl, hB⟩
   have HB : Below w.heap.size w w1 := HB0.trans (hB.mono (by simp))
   clear hB
   go_wp2
   go_ret
   exact ⟨ret_bool (by rw [← hz]; simp [segOk, hx]), HB⟩
end Go.Proofs.YtpnnpkchogooaaaGreat
