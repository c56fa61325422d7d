/- Part 4 of the walks that the proof leans on. -/
import Derived.Test.YtpnnpkchogooaaaGreatPart3
import Derived.Test.YtpnnpkchogooaaaGreatPart1
import Derived.Deep.RegionHeld3
import Derived.Test.YtpnnpkchogooaaaGreatPart2
import Derived.Deep.DeepCutAuto
import Derived.Deep.QuietTactic
import Derived.BigQuiet
import Derived.Deep.MidRow
set_option maxRecDepth 100000
set_option maxHeartbeats 8000000
namespace Go.Proofs.YtpnnpkchogooaaaGreat
open Go.RowKit
structure Two (w W : World) (A0 A1 B0 B1 : Value) : Prop where
 a0 : W.cell? ⟨w.heap.size, 0, none⟩ = some A0
 a1 : W.cell? ⟨w.heap.size, 1, none⟩ = some A1
 b0 : W.cell? ⟨w.heap.size + 1, 0, none⟩ = some B0
 b1 : W.cell? ⟨w.heap.size + 1, 1, none⟩ = some B1
 r0 : W.cell? ⟨w.heap.size + 1 + 1, 0, none⟩ = some (.bool false)
 r1 : W.cell? ⟨w.heap.size + 1 + 1, 1, none⟩ = some (.slice none 0 0)
 f0 : W.frozen? ⟨w.heap.size + 1 + 1, 0, none⟩ = false
 f1 : W.frozen? ⟨w.heap.size + 1 + 1, 1, none⟩ = false
 sz : w.heap.size + 1 + 1 < W.heap.size
 below : Below w.heap.size w W
theorem two_start (w : World) (A0 A1 B0 B1 : Value) : Two w (((w.alloc (Obj.cells #[A0, A1] 73)).alloc (Obj.cells #[B0, B1] 73)).alloc (Obj.cells #[Value.bool false, Value.slice none 0 0] 73)) A0 A1 B0 B1 :=
 ⟨by simp [go_sem], by simp [go_sem], by simp [go_sem], by simp [go_sem], by simp [go_sem], by simp [go_sem], by simp [go_sem], by simp [go_sem], by simp, (((Below.refl _ _).alloc (Nat.le_refl _) _).alloc (by simp) _).alloc (by simp; omega) _⟩
theorem Two.step {w W W' : World} {A0 A1 B0 B1 : Value} (h : Two w W A0 A1 B0 B1) (hb : Below W.heap.size W W') : Two w W' A0 A1 B0 B1 := by
 have hs := h.sz
 have hc := fun b o (hl : b < W.heap.size) => hb.cell (p := ⟨b, o, none⟩) hl
 have hf := fun b o (hl : b < W.heap.size) => hb.frozen (p := ⟨b, o, none⟩) hl
 exact ⟨(hc _ _ (by omega)).trans h.a0, (hc _ _ (by omega)).trans h.a1, (hc _ _ (by omega)).trans h.b0, (hc _ _ (by omega)).trans h.b1, (hc _ _ hs).trans h.r0, (hc _ _ hs).trans h.r1, (hf _ _ hs).trans h.f0, (hf _ _ hs).trans h.f1,
   Nat.lt_of_lt_of_le hs hb.size, h.below.trans (hb.mono h.below.size)⟩
theorem Two.drew {w W : World} {A0 A1 B0 B1 : Value} (h : Two w W A0 A1 B0 B1) : Two w W.drew A0 A1 B0 B1 := ⟨h.a0, h.a1, h.b0, h.b1, h.r0, h.r1, h.f0, h.f1, h.sz, h.below.drew⟩
theorem two_keep {w W : World} {u v : Value} (a o : Nat) {c : Value} (ha : a ≠ w.heap.size + 1 + 1) (hc : W.cell? ⟨a, o, none⟩ = some c) :
   ((W.setCell ⟨w.heap.size + 1 + 1, 0, none⟩ u).setCell ⟨w.heap.size + 1 + 1, 1, none⟩ v).cell? ⟨a, o, none⟩ = some c := by
 have hn : ∀ j, (⟨w.heap.size + 1 + 1, j, none⟩ : Addr) ≠ ⟨a, o, none⟩ := by intro j e; simp only [Addr.mk.injEq] at e; exact ha e.1.symm
 rw [World.cell?_setCell_other _ _ _ _ (hn 1), World.cell?_setCell_other _ _ _ _ (hn 0)]
 exact hc
theorem abs_add {x y : Int} (h : decide (x < 0) = decide (y < 0)) : ((x.natAbs : Int) + y.natAbs) = ((x + y).natAbs : Int) := by
 have : (x < 0) ↔ (y < 0) := by simpa using h
 omega
theorem sign_add {x y : Int} {s : Bool} (h1 : s = decide (x < 0)) (h : decide (x < 0) = decide (y < 0)) : x + y ≠ 0 → s = decide (x + y < 0) := by
 intro hz
 rw [h1]
 have : (x < 0) ↔ (y < 0) := by simpa using h
 rw [decide_eq_decide]; omega
theorem abs_sub {x y : Int} {s t : Bool} (hs : s = decide (x < 0)) (ht : t = decide (y < 0)) (hne : s ≠ t) (h : (y.natAbs : Int) ≤ x.natAbs) : ((x.natAbs : Int) - y.natAbs) = ((x + y).natAbs : Int) ∧ (x + y ≠ 0 → s = decide (x + y < 0)) := by
 have : ¬ ((x < 0) ↔ (y < 0)) := by intro h'; apply hne; rw [hs, ht, decide_eq_decide]; exact h'
 constructor
 · omega
 · intro hz; rw [hs, decide_eq_decide]; omega
theorem num_ret' {w w3 : World} {s : Bool} {ao : Option Addr} {n cap : Nat} {ds : List Int} {z : Int} {k R : Nat} {b0 : Bool} {a0 : Option Addr} {n0 c0 : Nat} (hR : w.heap.size ≤ R) (h0 : w3.cell? ⟨R, 0, none⟩ = some (.bool b0)) (h1 : w3.cell? ⟨R, 1, none⟩ = some (.slice a0 n0 c0))
   (h : IsNum w3 s ao n cap ds z k) (hb : Below w.heap.size w w3) {w4 : World} (hw : w4 = ((w3.setCell ⟨R, 0, none⟩ (.bool s)).setCell ⟨R, 1, none⟩ (.slice ao n cap)).drew ∨ w4 = (w3.setCell ⟨R, 0, none⟩ (.bool s)).setCell ⟨R, 1, none⟩ (.slice ao n cap) := by first | exact Or.inl rfl | exact Or.inr rfl) :
   NumP k z w (.returned (.agg #[.bool s, .slice ao n cap])) w4 := by
 obtain ⟨s', ao', n', cap', ds', e, hN, hB⟩ := num_ret hR h0 h1 h hb
 rcases hw with rfl | rfl
 · exact ⟨s', ao', n', cap', ds', e, ⟨hN.neg, hN.len, hN.cap, hN.rd, hN.nrm, hN.val, hN.le⟩, hB.drew⟩
 · exact ⟨s', ao', n', cap', ds', e, hN, hB⟩
def Nn (z : Int) : Prop := 0 ≤ z
def Ng (z : Int) : Prop := z < 0
theorem add_same (s : Bool) (ao bo : Option Addr) (n m ca cb k : Nat) (xs ys : List Int) (x y : Int) (w : World) (hx : IsNum w s ao n ca xs x k) (hy : IsNum w s bo m cb ys y k) (hk : k ≤ 1000000) :
   Calls Tryz.prog 89 #[.agg #[.bool s, .slice ao n ca], .agg #[.bool s, .slice bo m cb]] w (NumP (k + 1) (x + y) w) := by
 have hss : (s == s) = true := by simp
 have hsg : decide (x < 0) = decide (y < 0) := hx.neg.symm.trans hy.neg
 have HV : Hid (val xs + val ys = ((x + y).natAbs : Int) ∧ (x + y ≠ 0 → s = decide (x + y < 0))) := ⟨by rw [hx.val, hy.val]; exact abs_add hsg, sign_add hx.neg hsg⟩
 have HX : Hid (xs.length = n) := hx.len
 have HY : Hid (ys.length = m) := hy.len
 have hnk := hx.le
 have hmk := hy.le
 have dx := hx.nrm.1
 have dy := hy.nrm.1
 have T0 := two_start w (.bool s) (.slice ao n ca) (.bool s) (.slice bo m cb)
 have rx := hx.rd.below T0.below (Nat.le_refl _)
 have ry := hy.rd.below T0.below (Nat.le_refl _)
 clear hsg hx hy
 go_enter Tryz.func89, Tryz.ntmps89
 go_wp2
 generalize ((w.alloc (Obj.cells #[Value.bool s, Value.slice ao n ca] 73)).alloc (Obj.cells #[Value.bool s, Value.slice bo m cb] 73)).alloc (Obj.cells #[Value.bool false, Value.slice none 0 0] 73) = W at *
 go_region_held3 (fun w' => w'.cell? ⟨w.heap.size, 0, none⟩ = some (.bool s) ∧ w'.cell? ⟨w.heap.size, 1, none⟩ = some (.slice ao n ca) ∧ w'.cell? ⟨w.heap.size + 1, 1, none⟩ = some (.slice bo m cb)) (first | exact ⟨two_keep _ _ (by omega) T2.a0, two_keep _ _ (by omega) T2.a1, two_keep _ _ (by omega) T2.b1⟩ | exact ⟨T2.a0, T2.a1, T2.b1⟩ | exact ⟨T1.a0, T1.a1, T1.b1⟩ | exact ⟨T0.a0, T0.a1, T0.b1⟩)
   (first
     | (go_at_call 116; refine (addAbs_any ao bo n m ca cb k xs ys _ HX.out HY.out dx dy (by exact rx) (by exact ry) hnk hmk hk).mono ?_; rintro e w1 ⟨ao1, n1, c1, zs, rfl, p1, p2, p3, p4, p5, p6, p7⟩; have T1 := T0.drew.step p7; clear p7)
     | (go_at_call 105; refine (trim_any s _ _ _ zs _ p1 p2 p4 p6 (by omega)).mono ?_; rintro e w2 ⟨neg', ao', n', cap', ds', rfl, k1, k2, k3, k4, k5, k6, k7, k8⟩; have T2 := T1.step k8; have HN := num_of (z := x + y) (k := k + 1) k1 k2 (by omega) k4 (k5.trans p5) (k6.trans (by rw [p5])) k7 HV.out.1 HV.out.2; have c0 := T2.r0; have c1 := T2.r1; have f0 := T2.f0; have f1 := T2.f1; clear k1 k2 k3 k4 k5 k6 k7 k8))
 all_goals go_wp2
 all_goals refine bodyPost_ret (v := .agg #[.bool neg', .slice ao' n' cap']) (by simp [results, Tryz.results89, go_sem, c0, c1]) rfl ?_
 all_goals exact num_ret' (by omega) c0 c1 HN T2.below
theorem add_ge (s t : Bool) (hst : s ≠ t) (ao bo : Option Addr) (n m ca cb k : Nat) (xs ys : List Int) (x y : Int) (w : World) (hx : IsNum w s ao n ca xs x k) (hy : IsNum w t bo m cb ys y k) (hk : k ≤ 1000000) (hle : val ys ≤ val xs) :
   Calls Tryz.prog 89 #[.agg #[.bool s, .slice ao n ca], .agg #[.bool t, .slice bo m cb]] w (NumP (k + 1) (x + y) w) := by
 have hss : (s == t) = false := by simpa using hst
 have HV : Hid (val xs - val ys = ((x + y).natAbs : Int) ∧ (x + y ≠ 0 → s = decide (x + y < 0))) := by have := hle; rw [hx.val, hy.val] at this ⊢; exact abs_sub hx.neg hy.neg hst this
 have HX : Hid (xs.length = n) := hx.len
 have HY : Hid (ys.length = m) := hy.len
 have hnk := hx.le
 have hmk := hy.le
 have NX := hx.nrm
 have NY := hy.nrm
 have HLE : Hid (val ys ≤ val xs) := hle
 have T0 := two_start w (.bool s) (.slice ao n ca) (.bool t) (.slice bo m cb)
 have rx := hx.rd.below T0.below (Nat.le_refl _)
 have ry := hy.rd.below T0.below (Nat.le_refl _)
 have hcc : Nn (cmpI (val xs) (val ys)) := by show 0 ≤ _; unfold cmpI; split <;> (try split) <;> omega
 clear hx hy hst hle
 go_enter Tryz.func89, Tryz.ntmps89
 go_wp2_with fail
 generalize ((w.alloc (Obj.cells #[Value.bool s, Value.slice ao n ca] 73)).alloc (Obj.cells #[Value.bool t, Value.slice bo m cb] 73)).alloc (Obj.cells #[Value.bool false, Value.slice none 0 0] 73) = W0 at *
 refine (cmpAbs_any ao bo n m ca cb xs ys _ HX.out HY.out NX NY rx ry (by omega) (by omega)).mono ?_
 rintro e W ⟨rfl, hB⟩
 have T := T0.step hB
 have rx := rx.below hB (Nat.le_refl _)
 have ry := ry.below hB (Nat.le_refl _)
 generalize cmpI (val xs) (val ys) = cc at *
 have hcc : 0 ≤ cc := hcc
 clear T0 hB
 have T0 := T
 clear T
 go_wp2
 go_region_held3 (fun w' => w'.cell? ⟨w.heap.size, 0, none⟩ = some (.bool s) ∧ w'.cell? ⟨w.heap.size, 1, none⟩ = some (.slice ao n ca) ∧ w'.cell? ⟨w.heap.size + 1, 1, none⟩ = some (.slice bo m cb)) (first | exact ⟨two_keep _ _ (by omega) T2.a0, two_keep _ _ (by omega) T2.a1, two_keep _ _ (by omega) T2.b1⟩ | exact ⟨T2.a0, T2.a1, T2.b1⟩ | exact ⟨T1.a0, T1.a1, T1.b1⟩ | exact ⟨T0.a0, T0.a1, T0.b1⟩)
   (first
     | (go_at_call 103; refine (subAbs_any ao bo n m ca cb xs ys _ HX.out HY.out NX.1 NY.1 (by exact rx) (by exact ry) (by omega) (by omega) HLE.out).mono ?_; rintro e w1 ⟨ao1, c1, zs, rfl, p1, p2, p4, p5, p6, p7⟩; have T1 := T0.drew.step p7; clear p7)
     | (go_at_call 105; refine (trim_any s _ _ _ zs _ p1 p2 p4 p6 (by omega)).mono ?_; rintro e w2 ⟨neg', ao', n', cap', ds', rfl, k1, k2, k3, k4, k5, k6, k7, k8⟩; have T2 := T1.step k8; have HN := num_of (z := x + y) (k := k + 1) k1 k2 (by omega) k4 (k5.trans p5) (k6.trans (by rw [p5])) k7 HV.out.1 HV.out.2; have c0 := T2.r0; have c1 := T2.r1; have f0 := T2.f0; have f1 := T2.f1; clear k1 k2 k3 k4 k5 k6 k7 k8))
 all_goals go_wp2
 all_goals refine bodyPost_ret (v := .agg #[.bool neg', .slice ao' n' cap']) (by simp [results, Tryz.results89, go_sem, c0, c1]) rfl ?_
 all_goals exact num_ret' (by omega) c0 c1 HN T2.below
theorem add_lt (s t : Bool) (hst : s ≠ t) (ao bo : Option Addr) (n m ca cb k : Nat) (xs ys : List Int) (x y : Int) (w : World) (hx : IsNum w s ao n ca xs x k) (hy : IsNum w t bo m cb ys y k) (hk : k ≤ 1000000) (hle : val xs < val ys) :
   Calls Tryz.prog 89 #[.agg #[.bool s, .slice ao n ca], .agg #[.bool t, .slice bo m cb]] w (NumP (k + 1) (x + y) w) := by
 have hss : (s == t) = false := by simpa using hst
 have HV : Hid (val ys - val xs = ((x + y).natAbs : Int) ∧ (x + y ≠ 0 → t = decide (x + y < 0))) := by have := hle; rw [hx.val, hy.val] at this ⊢; have h := abs_sub hy.neg hx.neg (fun e => hst e.symm) (by omega); rw [Int.add_comm y x] at h; exact h
 have HX : Hid (xs.length = n) := hx.len
 have HY : Hid (ys.length = m) := hy.len
 have hnk := hx.le
 have hmk := hy.le
 have NX := hx.nrm
 have NY := hy.nrm
 have HLE : Hid (val xs < val ys) := hle
 have T0 := two_start w (.bool s) (.slice ao n ca) (.bool t) (.slice bo m cb)
 have rx := hx.rd.below T0.below (Nat.le_refl _)
 have ry := hy.rd.below T0.below (Nat.le_refl _)
 have hcc : Ng (cmpI (val xs) (val ys)) := by show _ < 0; rw [cmpI_lt hle]; decide
 clear hx hy hst hle
 go_enter Tryz.func89, Tryz.ntmps89
 go_wp2_with fail
 generalize ((w.alloc (Obj.cells #[Value.bool s, Value.slice ao n ca] 73)).alloc (Obj.cells #[Value.bool t, Value.slice bo m cb] 73)).alloc (Obj.cells #[Value.bool false, Value.slice none 0 0] 73) = W0 at *
 refine (cmpAbs_any ao bo n m ca cb xs ys _ HX.out HY.out NX NY rx ry (by omega) (by omega)).mono ?_
 rintro e W ⟨rfl, hB⟩
 have T := T0.step hB
 have rx := rx.below hB (Nat.le_refl _)
 have ry := ry.below hB (Nat.le_refl _)
 generalize cmpI (val xs) (val ys) = cc at *
 have hcc : ¬ 0 ≤ cc := by have : cc < 0 := hcc; omega
 clear T0 hB
 have T0 := T
 clear T
 go_wp2
 go_region_held3 (fun w' => w'.cell? ⟨w.heap.size + 1, 0, none⟩ = some (.bool t) ∧ w'.cell? ⟨w.heap.size + 1, 1, none⟩ = some (.slice bo m cb) ∧ w'.cell? ⟨w.heap.size, 1, none⟩ = some (.slice ao n ca)) (first | exact ⟨two_keep _ _ (by omega) T2.b0, two_keep _ _ (by omega) T2.b1, two_keep _ _ (by omega) T2.a1⟩ | exact ⟨T2.b0, T2.b1, T2.a1⟩ | exact ⟨T1.b0, T1.b1, T1.a1⟩ | exact ⟨T0.b0, T0.b1, T0.a1⟩)
   (first
     | (go_at_call 103; refine (subAbs_any bo ao m n cb ca ys xs _ HY.out HX.out NY.1 NX.1 (by exact ry) (by exact rx) (by omega) (by omega) (Int.le_of_lt HLE.out)).mono ?_; rintro e w1 ⟨ao1, c1, zs, rfl, p1, p2, p4, p5, p6, p7⟩; have T1 := T0.drew.step p7; clear p7)
     | (go_at_call 105; refine (trim_any t _ _ _ zs _ p1 p2 p4 p6 (by omega)).mono ?_; rintro e w2 ⟨neg', ao', n', cap', ds', rfl, k1, k2, k3, k4, k5, k6, k7, k8⟩; have T2 := T1.step k8; have HN := num_of (z := x + y) (k := k + 1) k1 k2 (by omega) k4 (k5.trans p5) (k6.trans (by rw [p5])) k7 HV.out.1 HV.out.2; have c0 := T2.r0; have c1 := T2.r1; have f0 := T2.f0; have f1 := T2.f1; clear k1 k2 k3 k4 k5 k6 k7 k8))
 all_goals go_wp2
 all_goals refine bodyPost_ret (v := .agg #[.bool neg', .slice ao' n' cap']) (by simp [results, Tryz.results89, go_sem, c0, c1]) rfl ?_
 all_goals exact num_ret' (by omega) c0 c1 HN T2.below
theorem add_any (s t : Bool) (ao bo : Option Addr) (n m ca cb k : Nat) (xs ys : List Int) (x y : Int) (w : World) (hx : IsNum w s ao n ca xs x k) (hy : IsNum w t bo m cb ys y k) (hk : k ≤ 1000000) :
   Calls Tryz.prog 89 #[.agg #[.bool s, .slice ao n ca], .agg #[.bool t, .slice bo m cb]] w (NumP (k + 1) (x + y) w) := by
 by_cases hst : s = t
 · subst hst
   exact add_same s ao bo n m ca cb k xs ys x y w hx hy hk
 · by_cases hle : val ys ≤ val xs
   · exact add_ge s t hst ao bo n m ca cb k xs ys x y w hx hy hk hle
   · exact add_lt s t hst ao bo n m ca cb k xs ys x y w hx hy hk (by omega)
theorem IsNum.drew {w : World} {s : Bool} {ao : Option Addr} {n cap : Nat} {ds : List Int} {z : Int} {k : Nat} (h : IsNum w s ao n cap ds z k) : IsNum w.drew s ao n cap ds z k := ⟨h.neg, h.len, h.cap, h.rd, h.nrm, h.val, h.le⟩
theorem IsNum.negated {w : World} {s : Bool} {ao : Option Addr} {n cap : Nat} {ds : List Int} {z : Int} {k : Nat} (h : IsNum w s ao n cap ds z k) (hz : z ≠ 0) : IsNum w (!s) ao n cap ds (-z) k :=
 ⟨by rw [h.neg]; by_cases h' : z < 0 <;> simp [h'] <;> omega, h.len, h.cap, h.rd, h.nrm, by rw [h.val]; omega, h.le⟩
theorem neg_any (s : Bool) (ao : Option Addr) (n cap : Nat) (ds : List Int) (z : Int) (k : Nat) (w : World) (h : IsNum w s ao n cap ds z k) :
   Calls Tryz.prog 106 #[.agg #[.bool s, .slice ao n cap]] w (NumP k (-z) w) := by
 have h1 := h.zero
 have hB : ∀ o o', Below w.heap.size w ((w.alloc o).alloc o') := fun o o' => ((Below.refl _ _).alloc (Nat.le_refl _) o).alloc (by simp) o'
 by_cases hz : z = 0
 · subst hz
   have hn := h1.2 rfl
   subst hn
   have HH : Hid (IsNum w s ao 0 cap ds 0 k) := h
   clear h1 h
   go_enter Tryz.func106, Tryz.ntmps106
   go_wp2
   refine bodyPost_ret (v := .agg #[.bool s, .slice ao 0 cap]) (by simp [results, Tryz.results106, go_sem]) rfl ?_
   exact ⟨s, ao, 0, cap, ds, rfl, by simpa using HH.out.below (hB _ _), hB _ _⟩
 · have hn : ((n : Int) == 0) = false := beq_eq_false_iff_ne.2 (by have := fun h => hz (h1.1 h); omega)
   have HH : Hid (IsNum w (!s) ao n cap ds (-z) k) := h.negated hz
   clear h1 h
   go_enter Tryz.func106, Tryz.ntmps106
   go_wp2
   refine bodyPost_ret (v := .agg #[.bool (!s), .slice ao n cap]) (by simp [results, Tryz.results106, go_sem]) rfl ?_
   exact ⟨!s, ao, n, cap, ds, rfl, HH.out.below (hB _ _), hB _ _⟩
theorem sub_any (s t : Bool) (ao bo : Option Addr) (n m ca cb k : Nat) (xs ys : List Int) (x y : Int) (w : World) (hx : IsNum w s ao n ca xs x k) (hy : IsNum w t bo m cb ys y k) (hk : k ≤ 1000000) :
   Calls Tryz.prog 120 #[.agg #[.bool s, .slice ao n ca], .agg #[.bool t, .slice bo m cb]] w (NumP (k + 1) (x - y) w) := by
 have T0 := two_start w (.bool s) (.slice ao n ca) (.bool t) (.slice bo m cb)
 have nx := (hx.below T0.below).drew
 have ny := (hy.below T0.below).drew
 clear hx hy
 go_enter Tryz.func120, Tryz.ntmps120
 go_wp2
 generalize ((w.alloc (Obj.cells #[Value.bool s, Value.slice ao n ca] 73)).alloc (Obj.cells #[Value.bool t, Value.slice bo m cb] 73)).alloc (Obj.cells #[Value.bool false, Value.slice none 0 0] 73) = W at *
 go_region_held3 (fun w' => w'.cell? ⟨w.heap.size, 0, none⟩ = some (.bool s) ∧ w'.cell? ⟨w.heap.size, 1, none⟩ = some (.slice ao n ca) ∧ w'.cell? ⟨w.heap.size + 1, 0, none⟩ = some (.bool t) ∧ w'.cell? ⟨w.heap.size + 1, 1, none⟩ = some (.slice bo m cb))
   (first | exact ⟨two_keep _ _ (by omega) T2.a0, two_keep _ _ (by omega) T2.a1, two_keep _ _ (by omega) T2.b0, two_keep _ _ (by omega) T2.b1⟩ | exact ⟨T2.a0, T2.a1, T2.b0, T2.b1⟩ | exact ⟨T1.a0, T1.a1, T1.b0, T1.b1⟩ | exact ⟨T0.a0, T0.a1, T0.b0, T0.b1⟩)
   (first
     | (go_at_call 106; refine (neg_any t bo m cb ys y k _ ny).mono ?_; rintro e w1 ⟨s1, ao1, n1, c1, ds1, rfl, hN1, hB1⟩; have T1 := T0.drew.step hB1; have nx1 := nx.below hB1; clear hB1)
     | (go_at_call 89; refine (add_any s s1 ao ao1 n n1 ca c1 k xs ds1 x (-y) _ nx1 hN1 hk).mono ?_; rintro e w2 ⟨s2, ao2, n2, c2, ds2, rfl, hN2, hB2⟩; have T2 := T1.step hB2; have c0 := T2.r0; have c1 := T2.r1; have f0 := T2.f0; have f1 := T2.f1; clear hB2))
 all_goals go_wp2
 all_goals refine bodyPost_ret (v := .agg #[.bool s2, .slice ao2 n2 c2]) (by simp [results, Tryz.results120, go_sem, c0, c1]) rfl ?_
 all_goals exact num_ret' (by omega) c0 c1 hN2 T2.below
theorem cmp_any (s t : Bool) (ao bo : Option Addr) (n m ca cb k : Nat) (xs ys : List Int) (x y : Int) (w : World) (hx : IsNum w s ao n ca xs x k) (hy : IsNum w t bo m cb ys y k) (hk : k ≤ 1000000) :
   Calls Tryz.prog 108 #[.agg #[.bool s, .slice ao n ca], .agg #[.bool t, .slice bo m cb]] w (IntP (cmpI x y) w) := by
 have hB : ∀ o o', Below w.heap.size w ((w.alloc o).alloc o') := fun o o' => ((Below.refl _ _).alloc (Nat.le_refl _) o).alloc (by simp) o'
 go_enter Tryz.func108, Tryz.ntmps108
 go_wp2_with fail
 refine (sub_any s t ao bo n m ca cb k xs ys x y _ (hx.below (hB _ _)) (hy.below (hB _ _)) hk).mono ?_
 rintro e w1 ⟨s1, ao1, n1, c1, ds1, rfl, hN1, hB1⟩
 have hB2 := (hB _ _).trans (hB1.mono (by simp; omega))
 clear hB1
 go_wp2_with fail
 refine (sign_any s1 ao1 n1 c1 ds1 _ _ _ hN1).mono ?_
 rintro e w2 ⟨rfl, hB3⟩
 have hB4 := hB2.trans (hB3.mono hB2.size)
 clear hB2 hB3 hN1
 go_wp2
 go_ret
 exact ⟨ret_int (by unfold cmpI; by_cases h1 : x < y <;> by_cases h2 : y < x <;> simp [h1, h2] <;> omega), hB4⟩
theorem toW_pos (ao : Option Addr) (n cap : Nat) (ds : List Int) (z : Int) (k : Nat) (w : World) (hz0 : 0 ≤ z) (h : IsNum w false ao n cap ds z k) (hk : k ≤ 1000000) :
   Calls Tryz.prog 66 #[.agg #[.bool false, .slice ao n cap]] w (TellP z w) := by
 have HL : Hid (ds.length = n) := h.len
 have HD : Hid (Dig ds) := h.nrm.1
 have hm : n ≤ 1000000 := by have := h.le; omega
 go_enter Tryz.func66, Tryz.ntmps66
 go_wp2_with fail
 refine (bits_any ao n cap ds _ h.len h.nrm ((h.rd.below ((Below.refl _ _).alloc (Nat.le_refl _) _) (Nat.le_refl _)).below ((Below.refl _ _).alloc (Nat.le_refl _) _) (Nat.le_refl _)) (by have := h.le; omega)).mono ?_
 rintro e w1 ⟨b, rfl, hb, hB⟩
 have HR : Hid (Rd w1 ao ds) := ((h.rd.below ((Below.refl _ _).alloc (Nat.le_refl _) _) (Nat.le_refl _)).below ((Below.refl _ _).alloc (Nat.le_refl _) _) (Nat.le_refl _)).below hB (Nat.le_refl _)
 obtain ⟨c0, c1, c2, c3, f0, f1, f2, f3, hz, hB2⟩ := res4' (R := w.heap.size + 1) (by simp) (hB.mono (by simp))
 have HB : Hid (Below w.heap.size w w1) := ((Below.refl _ _).alloc (Nat.le_refl _) _).trans (hB2.mono (by simp))
 have hv := h.val
 have hbl := bits_le hb 255
 rw [two255, hv] at hbl
 clear hB hB2 h hb
 by_cases hb5 : b ≤ 255
 · have hmk := make8
   have HU : Hid (val ds < pw 8) := by show _ < _; have := hbl.1 hb5; rw [hv, pw8]; omega
   have HS : Hid (TellOk (val ds) z) := Or.inl ⟨hz0, by have := hbl.1 hb5; omega, by rw [hv]; omega⟩
   clear hv hbl
   go_wp2_with fail
   go_loopw [6] (fun i wr => ∃ k : Nat, k ≤ 8 ∧ k ≤ n ∧ i = .int .i64 k ∧ ToI w1 wr w1.heap.size ds k) (fun i _ => 8 - (intOf i).toNat)
   case atStart => exact ⟨0, by omega, Nat.zero_le _, rfl, toI_start w1 ds⟩
   case round =>
     obtain ⟨k, hk8, hkn, rfl, hI⟩ := hrel
     by_cases h8 : k < 8
     · by_cases hn : k < n
       · have hkx : k < ds.length := by have := HL.out; omega
         obtain ⟨b', off, rfl, hbl, hcx0⟩ := HR.out k hkx
         have hcx := (hI.below.cell (p := ⟨b', off + k, none⟩) hbl).trans hcx0
         clear hcx0
         obtain ⟨hx0, hx1⟩ := dig_at HD.out k hkx
         have hfr := hI.own.frozenAt k
         obtain ⟨v0, hc0⟩ := toI_cell hI k h8
         have R := toI_step hI h8 hkx
         clear hI
         have hbn : b' ≠ w1.heap.size := by omega
         go_wp2
         go_roundw
         case rel => exact ⟨k + 1, by omega, by omega, by go_num, R⟩
         case measure => simp [intOf]; omega
       · obtain rfl : k = n := by omega
         have HC := toI_cells hI (Or.inr HL.out)
         have HBB : Hid (Below w.heap.size w wr) := HB.out.trans (hI.below.mono HB.out.size)
         obtain ⟨g0, g1, g2, g3, q0, q1, q2, q3⟩ := toI_res hI hz c0 c1 c2 c3 f0 f1 f2 f3
         clear hI c0 c1 c2 c3 f0 f1 f2 f3
         have hne : w.heap.size + 1 ≠ w1.heap.size := by omega
         obtain ⟨y0, hy0⟩ : ∃ y, y = ds.getD 0 0 := ⟨_, rfl⟩
         obtain ⟨y1, hy1⟩ : ∃ y, y = ds.getD 1 0 := ⟨_, rfl⟩
         obtain ⟨y2, hy2⟩ : ∃ y, y = ds.getD 2 0 := ⟨_, rfl⟩
         obtain ⟨y3, hy3⟩ : ∃ y, y = ds.getD 3 0 := ⟨_, rfl⟩
         obtain ⟨y4, hy4⟩ : ∃ y, y = ds.getD 4 0 := ⟨_, rfl⟩
         obtain ⟨y5, hy5⟩ : ∃ y, y = ds.getD 5 0 := ⟨_, rfl⟩
         obtain ⟨y6, hy6⟩ : ∃ y, y = ds.getD 6 0 := ⟨_, rfl⟩
         obtain ⟨y7, hy7⟩ : ∃ y, y = ds.getD 7 0 := ⟨_, rfl⟩
         have e0 := HC 0 (by omega); have e1 := HC 1 (by omega); have e2 := HC 2 (by omega); have e3 := HC 3 (by omega); have e4 := HC 4 (by omega); have e5 := HC 5 (by omega); have e6 := HC 6 (by omega); have e7 := HC 7 (by omega)
         have b0 := dig_getD HD.out 0; have b1 := dig_getD HD.out 1; have b2 := dig_getD HD.out 2; have b3 := dig_getD HD.out 3; have b4 := dig_getD HD.out 4; have b5 := dig_getD HD.out 5; have b6 := dig_getD HD.out 6; have b7 := dig_getD HD.out 7
         have HW := uw_of_digits HD.out HU.out
         rw [← hy0] at e0 b0 HW; rw [← hy1] at e1 b1 HW; rw [← hy2] at e2 b2 HW; rw [← hy3] at e3 b3 HW; rw [← hy4] at e4 b4 HW; rw [← hy5] at e5 b5 HW; rw [← hy6] at e6 b6 HW; rw [← hy7] at e7 b7 HW
         have o0 := or_hi y0 y1 b0 b1; have o1 := or_hi y2 y3 b2 b3; have o2 := or_hi y4 y5 b4 b5; have o3 := or_hi y6 y7 b6 b7
         have d0 := word_of_digits b0 b1; have d1 := word_of_digits b2 b3; have d2 := word_of_digits b4 b5; have d3 := word_of_digits b6 b7
         obtain ⟨x0, hx0⟩ : ∃ x, x = y0 + y1 * 4294967296 := ⟨_, rfl⟩
         obtain ⟨x1, hx1⟩ : ∃ x, x = y2 + y3 * 4294967296 := ⟨_, rfl⟩
         obtain ⟨x2, hx2⟩ : ∃ x, x = y4 + y5 * 4294967296 := ⟨_, rfl⟩
         obtain ⟨x3, hx3⟩ : ∃ x, x = y6 + y7 * 4294967296 := ⟨_, rfl⟩
         rw [← hx0] at o0 d0 HW; rw [← hx1] at o1 d1 HW; rw [← hx2] at o2 d2 HW; rw [← hx3] at o3 d3 HW
         have HW2 : Hid (uw x3 x2 x1 x0 = val ds) := HW
         clear HC HW hx0 hx1 hx2 hx3 hy0 hy1 hy2 hy3 hy4 hy5 hy6 hy7 b0 b1 b2 b3 b4 b5 b6 b7
         go_wp2
         go_region_held3 (fun w' => w'.cell? ⟨w1.heap.size, 0, none⟩ = some (.int .u64 y0) ∧ w'.cell? ⟨w1.heap.size, 1, none⟩ = some (.int .u64 y1) ∧ w'.cell? ⟨w1.heap.size, 2, none⟩ = some (.int .u64 y2) ∧ w'.cell? ⟨w1.heap.size, 3, none⟩ = some (.int .u64 y3) ∧ w'.cell? ⟨w1.heap.size, 4, none⟩ = some (.int .u64 y4) ∧ w'.cell? ⟨w1.heap.size, 5, none⟩ = some (.int .u64 y5) ∧ w'.cell? ⟨w1.heap.size, 6, none⟩ = some (.int .u64 y6) ∧ w'.cell? ⟨w1.heap.size, 7, none⟩ = some (.int .u64 y7)) (first | exact ⟨e0, e1, e2, e3, e4, e5, e6, e7⟩ | exact keep8 hne e0 e1 e2 e3 e4 e5 e6 e7) (fail)
         all_goals go_wp2
         all_goals refine bodyPost_ret (v := .tuple #[.agg #[.int .u64 x3, .int .u64 x2, .int .u64 x1, .int .u64 x0], .bool true]) (by simp [results, Tryz.results66, go_sem, g0, g1, g2, g3]) rfl ?_
         all_goals exact tell_ok d3 d2 d1 d0 HW2.out HS.out (by first | exact (tell_below HBB.out (Nat.le_succ _)).drew | exact tell_below HBB.out (Nat.le_succ _))
     · obtain rfl : k = 8 := by omega
       have HC := toI_cells hI (Or.inl rfl)
       have HBB : Hid (Below w.heap.size w wr) := HB.out.trans (hI.below.mono HB.out.size)
       obtain ⟨g0, g1, g2, g3, q0, q1, q2, q3⟩ := toI_res hI hz c0 c1 c2 c3 f0 f1 f2 f3
       clear hI c0 c1 c2 c3 f0 f1 f2 f3
       have hne : w.heap.size + 1 ≠ w1.heap.size := by omega
       obtain ⟨y0, hy0⟩ : ∃ y, y = ds.getD 0 0 := ⟨_, rfl⟩
       obtain ⟨y1, hy1⟩ : ∃ y, y = ds.getD 1 0 := ⟨_, rfl⟩
       obtain ⟨y2, hy2⟩ : ∃ y, y = ds.getD 2 0 := ⟨_, rfl⟩
       obtain ⟨y3, hy3⟩ : ∃ y, y = ds.getD 3 0 := ⟨_, rfl⟩
       obtain ⟨y4, hy4⟩ : ∃ y, y = ds.getD 4 0 := ⟨_, rfl⟩
       obtain ⟨y5, hy5⟩ : ∃ y, y = ds.getD 5 0 := ⟨_, rfl⟩
       obtain ⟨y6, hy6⟩ : ∃ y, y = ds.getD 6 0 := ⟨_, rfl⟩
       obtain ⟨y7, hy7⟩ : ∃ y, y = ds.getD 7 0 := ⟨_, rfl⟩
       have e0 := HC 0 (by omega); have e1 := HC 1 (by omega); have e2 := HC 2 (by omega); have e3 := HC 3 (by omega); have e4 := HC 4 (by omega); have e5 := HC 5 (by omega); have e6 := HC 6 (by omega); have e7 := HC 7 (by omega)
       have b0 := dig_getD HD.out 0; have b1 := dig_getD HD.out 1; have b2 := dig_getD HD.out 2; have b3 := dig_getD HD.out 3; have b4 := dig_getD HD.out 4; have b5 := dig_getD HD.out 5; have b6 := dig_getD HD.out 6; have b7 := dig_getD HD.out 7
       have HW := uw_of_digits HD.out HU.out
       rw [← hy0] at e0 b0 HW; rw [← hy1] at e1 b1 HW; rw [← hy2] at e2 b2 HW; rw [← hy3] at e3 b3 HW; rw [← hy4] at e4 b4 HW; rw [← hy5] at e5 b5 HW; rw [← hy6] at e6 b6 HW; rw [← hy7] at e7 b7 HW
       have o0 := or_hi y0 y1 b0 b1; have o1 := or_hi y2 y3 b2 b3; have o2 := or_hi y4 y5 b4 b5; have o3 := or_hi y6 y7 b6 b7
       have d0 := word_of_digits b0 b1; have d1 := word_of_digits b2 b3; have d2 := word_of_digits b4 b5; have d3 := word_of_digits b6 b7
       obtain ⟨x0, hx0⟩ : ∃ x, x = y0 + y1 * 4294967296 := ⟨_, rfl⟩
       obtain ⟨x1, hx1⟩ : ∃ x, x = y2 + y3 * 4294967296 := ⟨_, rfl⟩
       obtain ⟨x2, hx2⟩ : ∃ x, x = y4 + y5 * 4294967296 := ⟨_, rfl⟩
       obtain ⟨x3, hx3⟩ : ∃ x, x = y6 + y7 * 4294967296 := ⟨_, rfl⟩
       rw [← hx0] at o0 d0 HW; rw [← hx1] at o1 d1 HW; rw [← hx2] at o2 d2 HW; rw [← hx3] at o3 d3 HW
       have HW2 : Hid (uw x3 x2 x1 x0 = val ds) := HW
       clear HC HW hx0 hx1 hx2 hx3 hy0 hy1 hy2 hy3 hy4 hy5 hy6 hy7 b0 b1 b2 b3 b4 b5 b6 b7
       go_wp2
       go_region_held3 (fun w' => w'.cell? ⟨w1.heap.size, 0, none⟩ = some (.int .u64 y0) ∧ w'.cell? ⟨w1.heap.size, 1, none⟩ = some (.int .u64 y1) ∧ w'.cell? ⟨w1.heap.size, 2, none⟩ = some (.int .u64 y2) ∧ w'.cell? ⟨w1.heap.size, 3, none⟩ = some (.int .u64 y3) ∧ w'.cell? ⟨w1.heap.size, 4, none⟩ = some (.int .u64 y4) ∧ w'.cell? ⟨w1.heap.size, 5, none⟩ = some (.int .u64 y5) ∧ w'.cell? ⟨w1.heap.size, 6, none⟩ = some (.int .u64 y6) ∧ w'.cell? ⟨w1.heap.size, 7, none⟩ = some (.int .u64 y7)) (first | exact ⟨e0, e1, e2, e3, e4, e5, e6, e7⟩ | exact keep8 hne e0 e1 e2 e3 e4 e5 e6 e7) (fail)
       all_goals go_wp2
       all_goals refine bodyPost_ret (v := .tuple #[.agg #[.int .u64 x3, .int .u64 x2, .int .u64 x1, .int .u64 x0], .bool true]) (by simp [results, Tryz.results66, go_sem, g0, g1, g2, g3]) rfl ?_
       all_goals exact tell_ok d3 d2 d1 d0 HW2.out HS.out (by first | exact (tell_below HBB.out (Nat.le_succ _)).drew | exact tell_below HBB.out (Nat.le_succ _))
 · have HT : Hid (told z = false) := by show _ = _; unfold told; rw [decide_eq_false_iff_not]; have := fun h => hb5 (hbl.2 h); omega
   clear hv hbl HR
   go_wp2_with fail
   refine bodyPost_ret (v := .tuple #[.agg #[.int .u64 0, .int .u64 0, .int .u64 0, .int .u64 0], .bool false]) (by simp [results, Tryz.results66, go_sem, c0, c1, c2, c3]) rfl ?_
   exact ⟨tell_below HB.out (Nat.le_succ _), Or.inr ⟨HT.out, rfl⟩⟩
theorem toW_neg (ao : Option Addr) (n cap : Nat) (ds0 : List Int) (z : Int) (k : Nat) (w : World) (hz0 : z < 0) (h : IsNum w true ao n cap ds0 z k) (hk : k ≤ 1000000) :
   Calls Tryz.prog 66 #[.agg #[.bool true, .slice ao n cap]] w (TellP z w) := by
 have hm0 : n ≤ 1000000 := by have := h.le; omega
 go_enter Tryz.func66, Tryz.ntmps66
 go_wp2_with fail
 refine (left_any _ 1 1 255 [1] _ rfl (dig_cons.2 ⟨by omega, dig_nil⟩) (Rd.lit _ (by simp) rfl (by simp [maxLen])) (by omega) (by omega)).mono ?_
 rintro e wa ⟨ao1, n1, cap1, zs1, rfl, k1, k2, k3, k4, k5, k6, k7⟩
 have hRd0 : Rd wa ao ds0 := (((h.rd.below ((Below.refl _ _).alloc (Nat.le_refl _) _) (Nat.le_refl _)).below ((Below.refl _ _).alloc (Nat.le_refl _) _) (Nat.le_refl _)).below ((Below.refl _ _).alloc (Nat.le_refl _) _) (Nat.le_refl _)).below k7 (Nat.le_refl _)
 have hA : Below (w.heap.size + 2) ((w.alloc (Obj.cells #[Value.bool true, Value.slice ao n cap] 73)).alloc (Obj.cells #[Value.int IntKind.u64 0, Value.int IntKind.u64 0, Value.int IntKind.u64 0, Value.int IntKind.u64 0] 32)) wa :=
   ((Below.refl _ _).alloc (by simp) _).trans (k7.mono (by simp))
 rw [pw255] at k5
 have k3' : n1 ≤ 9 := k3
 clear k7 k3
 go_wp2_with fail
 refine (cmpAbs_any ao ao1 n n1 cap cap1 ds0 zs1 _ h.len k1 h.nrm k4 hRd0 k6 hm0 (by omega)).mono ?_
 rintro e wb ⟨rfl, hB⟩
 have hRd1 := hRd0.below hB (Nat.le_refl _)
 have hA1 := hA.trans (hB.mono (by have := hA.size; simp at this ⊢; omega))
 have hL0 := h.len
 have hD0 := h.nrm.1
 have hv0 := h.val
 have HV0 : Hid (val ds0 = (z.natAbs : Int)) := hv0
 rw [k5, hv0]
 clear k1 k2 k4 k5 k6 hRd0 hA hB h hv0
 by_cases hb5 : (z.natAbs : Int) ≤ 57896044618658097711785492504343953926634992332820282019728792003956564819968
 · have hcmp : ¬ 0 < cmpI (z.natAbs : Int) 57896044618658097711785492504343953926634992332820282019728792003956564819968 := by unfold cmpI; split <;> (try split) <;> omega
   generalize cmpI (z.natAbs : Int) 57896044618658097711785492504343953926634992332820282019728792003956564819968 = cc at hcmp ⊢
   have hmk := make8
   go_wp2_with fail
   refine (left_any _ 1 1 256 [1] _ rfl (dig_cons.2 ⟨by omega, dig_nil⟩) (Rd.lit _ (by simp) rfl (by simp [maxLen])) (by omega) (by omega)).mono ?_
   rintro e wc ⟨ao2, n2, cap2, zs2, rfl, k1, k2, k3, k4, k5, k6, k7⟩
   have hRd2 := (hRd1.below ((Below.refl _ _).alloc (Nat.le_refl _) _) (Nat.le_refl _)).below k7 (Nat.le_refl _)
   have hA2 := (hA1.alloc (by have := hA1.size; simp at this; omega) _).trans (k7.mono (by have := hA1.size; simp at this ⊢; omega))
   have k3' : n2 ≤ 10 := k3
   rw [pw256] at k5
   clear k7 k3
   go_wp2_with fail
   refine (subAbs_any ao2 ao n2 n cap2 cap zs2 ds0 _ k1 hL0 k4.1 hD0 k6 hRd2 (by omega) hm0 (by rw [k5, HV0.out]; omega)).mono ?_
   rintro e w1 ⟨ao3, cap3, ds, rfl, m1, m2, m3, m4, m5, m6⟩
   have hA3 := hA2.trans (m6.mono (by have := hA2.size; simp at this ⊢; omega))
   obtain ⟨c0, c1, c2, c3, f0, f1, f2, f3, hz, hB2⟩ := res4' (R := w.heap.size + 1) (by simp) (hA3.mono (by simp))
   have HB : Hid (Below w.heap.size w w1) := ((Below.refl _ _).alloc (Nat.le_refl _) _).trans (hB2.mono (by simp))
   have HL : Hid (ds.length = n2) := m1
   have HD : Hid (Dig ds) := m3
   have HR : Hid (Rd w1 ao3 ds) := m5
   rw [k5, HV0.out] at m4
   have HU : Hid (val ds < pw 8) := by show _ < _; rw [m4, pw8]; omega
   have HS : Hid (TellOk (val ds) z) := Or.inr ⟨hz0, by omega, by rw [m4]; omega⟩
   clear k1 k2 k4 k5 k6 hRd1 hRd2 hA1 hA2 hA3 hB2 m1 m2 m3 m4 m5 m6 hL0 hD0 HV0
   go_wp2_with fail
   go_loopw [6] (fun i wr => ∃ k : Nat, k ≤ 8 ∧ k ≤ n2 ∧ i = .int .i64 k ∧ ToI w1 wr w1.heap.size ds k) (fun i _ => 8 - (intOf i).toNat)
   case atStart => exact ⟨0, by omega, Nat.zero_le _, rfl, toI_start w1 ds⟩
   case round =>
     obtain ⟨k, hk8, hkn, rfl, hI⟩ := hrel
     by_cases h8 : k < 8
     · by_cases hn : k < n2
       · have hkx : k < ds.length := by have := HL.out; omega
         obtain ⟨b', off, rfl, hbl, hcx0⟩ := HR.out k hkx
         have hcx := (hI.below.cell (p := ⟨b', off + k, none⟩) hbl).trans hcx0
         clear hcx0
         obtain ⟨hx0, hx1⟩ := dig_at HD.out k hkx
         have hfr := hI.own.frozenAt k
         obtain ⟨v0, hc0⟩ := toI_cell hI k h8
         have R := toI_step hI h8 hkx
         clear hI
         have hbn : b' ≠ w1.heap.size := by omega
         go_wp2
         go_roundw
         case rel => exact ⟨k + 1, by omega, by omega, by go_num, R⟩
         case measure => simp [intOf]; omega
       · obtain rfl : k = n2 := by omega
         have HC := toI_cells hI (Or.inr HL.out)
         have HBB : Hid (Below w.heap.size w wr) := HB.out.trans (hI.below.mono HB.out.size)
         obtain ⟨g0, g1, g2, g3, q0, q1, q2, q3⟩ := toI_res hI hz c0 c1 c2 c3 f0 f1 f2 f3
         clear hI c0 c1 c2 c3 f0 f1 f2 f3
         have hne : w.heap.size + 1 ≠ w1.heap.size := by omega
         obtain ⟨y0, hy0⟩ : ∃ y, y = ds.getD 0 0 := ⟨_, rfl⟩
         obtain ⟨y1, hy1⟩ : ∃ y, y = ds.getD 1 0 := ⟨_, rfl⟩
         obtain ⟨y2, hy2⟩ : ∃ y, y = ds.getD 2 0 := ⟨_, rfl⟩
         obtain ⟨y3, hy3⟩ : ∃ y, y = ds.getD 3 0 := ⟨_, rfl⟩
         obtain ⟨y4, hy4⟩ : ∃ y, y = ds.getD 4 0 := ⟨_, rfl⟩
         obtain ⟨y5, hy5⟩ : ∃ y, y = ds.getD 5 0 := ⟨_, rfl⟩
         obtain ⟨y6, hy6⟩ : ∃ y, y = ds.getD 6 0 := ⟨_, rfl⟩
         obtain ⟨y7, hy7⟩ : ∃ y, y = ds.getD 7 0 := ⟨_, rfl⟩
         have e0 := HC 0 (by omega); have e1 := HC 1 (by omega); have e2 := HC 2 (by omega); have e3 := HC 3 (by omega); have e4 := HC 4 (by omega); have e5 := HC 5 (by omega); have e6 := HC 6 (by omega); have e7 := HC 7 (by omega)
         have b0 := dig_getD HD.out 0; have b1 := dig_getD HD.out 1; have b2 := dig_getD HD.out 2; have b3 := dig_getD HD.out 3; have b4 := dig_getD HD.out 4; have b5 := dig_getD HD.out 5; have b6 := dig_getD HD.out 6; have b7 := dig_getD HD.out 7
         have HW := uw_of_digits HD.out HU.out
         rw [← hy0] at e0 b0 HW; rw [← hy1] at e1 b1 HW; rw [← hy2] at e2 b2 HW; rw [← hy3] at e3 b3 HW; rw [← hy4] at e4 b4 HW; rw [← hy5] at e5 b5 HW; rw [← hy6] at e6 b6 HW; rw [← hy7] at e7 b7 HW
         have o0 := or_hi y0 y1 b0 b1; have o1 := or_hi y2 y3 b2 b3; have o2 := or_hi y4 y5 b4 b5; have o3 := or_hi y6 y7 b6 b7
         have d0 := word_of_digits b0 b1; have d1 := word_of_digits b2 b3; have d2 := word_of_digits b4 b5; have d3 := word_of_digits b6 b7
         obtain ⟨x0, hx0⟩ : ∃ x, x = y0 + y1 * 4294967296 := ⟨_, rfl⟩
         obtain ⟨x1, hx1⟩ : ∃ x, x = y2 + y3 * 4294967296 := ⟨_, rfl⟩
         obtain ⟨x2, hx2⟩ : ∃ x, x = y4 + y5 * 4294967296 := ⟨_, rfl⟩
         obtain ⟨x3, hx3⟩ : ∃ x, x = y6 + y7 * 4294967296 := ⟨_, rfl⟩
         rw [← hx0] at o0 d0 HW; rw [← hx1] at o1 d1 HW; rw [← hx2] at o2 d2 HW; rw [← hx3] at o3 d3 HW
         have HW2 : Hid (uw x3 x2 x1 x0 = val ds) := HW
         clear HC HW hx0 hx1 hx2 hx3 hy0 hy1 hy2 hy3 hy4 hy5 hy6 hy7 b0 b1 b2 b3 b4 b5 b6 b7
         go_wp2
         go_region_held3 (fun w' => w'.cell? ⟨w1.heap.size, 0, none⟩ = some (.int .u64 y0) ∧ w'.cell? ⟨w1.heap.size, 1, none⟩ = some (.int .u64 y1) ∧ w'.cell? ⟨w1.heap.size, 2, none⟩ = some (.int .u64 y2) ∧ w'.cell? ⟨w1.heap.size, 3, none⟩ = some (.int .u64 y3) ∧ w'.cell? ⟨w1.heap.size, 4, none⟩ = some (.int .u64 y4) ∧ w'.cell? ⟨w1.heap.size, 5, none⟩ = some (.int .u64 y5) ∧ w'.cell? ⟨w1.heap.size, 6, none⟩ = some (.int .u64 y6) ∧ w'.cell? ⟨w1.heap.size, 7, none⟩ = some (.int .u64 y7)) (first | exact ⟨e0, e1, e2, e3, e4, e5, e6, e7⟩ | exact keep8 hne e0 e1 e2 e3 e4 e5 e6 e7) (fail)
         all_goals go_wp2
         all_goals refine bodyPost_ret (v := .tuple #[.agg #[.int .u64 x3, .int .u64 x2, .int .u64 x1, .int .u64 x0], .bool true]) (by simp [results, Tryz.results66, go_sem, g0, g1, g2, g3]) rfl ?_
         all_goals exact tell_ok d3 d2 d1 d0 HW2.out HS.out (by first | exact (tell_below HBB.out (Nat.le_succ _)).drew | exact tell_below HBB.out (Nat.le_succ _))
     · obtain rfl : k = 8 := by omega
       have HC := toI_cells hI (Or.inl rfl)
       have HBB : Hid (Below w.heap.size w wr) := HB.out.trans (hI.below.mono HB.out.size)
       obtain ⟨g0, g1, g2, g3, q0, q1, q2, q3⟩ := toI_res hI hz c0 c1 c2 c3 f0 f1 f2 f3
       clear hI c0 c1 c2 c3 f0 f1 f2 f3
       have hne : w.heap.size + 1 ≠ w1.heap.size := by omega
       obtain ⟨y0, hy0⟩ : ∃ y, y = ds.getD 0 0 := ⟨_, rfl⟩
       obtain ⟨y1, hy1⟩ : ∃ y, y = ds.getD 1 0 := ⟨_, rfl⟩
       obtain ⟨y2, hy2⟩ : ∃ y, y = ds.getD 2 0 := ⟨_, rfl⟩
       obtain ⟨y3, hy3⟩ : ∃ y, y = ds.getD 3 0 := ⟨_, rfl⟩
       obtain ⟨y4, hy4⟩ : ∃ y, y = ds.getD 4 0 := ⟨_, rfl⟩
       obtain ⟨y5, hy5⟩ : ∃ y, y = ds.getD 5 0 := ⟨_, rfl⟩
       obtain ⟨y6, hy6⟩ : ∃ y, y = ds.getD 6 0 := ⟨_, rfl⟩
       obtain ⟨y7, hy7⟩ : ∃ y, y = ds.getD 7 0 := ⟨_, rfl⟩
       have e0 := HC 0 (by omega); have e1 := HC 1 (by omega); have e2 := HC 2 (by omega); have e3 := HC 3 (by omega); have e4 := HC 4 (by omega); have e5 := HC 5 (by omega); have e6 := HC 6 (by omega); have e7 := HC 7 (by omega)
       have b0 := dig_getD HD.out 0; have b1 := dig_getD HD.out 1; have b2 := dig_getD HD.out 2; have b3 := dig_getD HD.out 3; have b4 := dig_getD HD.out 4; have b5 := dig_getD HD.out 5; have b6 := dig_getD HD.out 6; have b7 := dig_getD HD.out 7
       have HW := uw_of_digits HD.out HU.out
       rw [← hy0] at e0 b0 HW; rw [← hy1] at e1 b1 HW; rw [← hy2] at e2 b2 HW; rw [← hy3] at e3 b3 HW; rw [← hy4] at e4 b4 HW; rw [← hy5] at e5 b5 HW; rw [← hy6] at e6 b6 HW; rw [← hy7] at e7 b7 HW
       have o0 := or_hi y0 y1 b0 b1; have o1 := or_hi y2 y3 b2 b3; have o2 := or_hi y4 y5 b4 b5; have o3 := or_hi y6 y7 b6 b7
       have d0 := word_of_digits b0 b1; have d1 := word_of_digits b2 b3; have d2 := word_of_digits b4 b5; have d3 := word_of_digits b6 b7
       obtain ⟨x0, hx0⟩ : ∃ x, x = y0 + y1 * 4294967296 := ⟨_, rfl⟩
       obtain ⟨x1, hx1⟩ : ∃ x, x = y2 + y3 * 4294967296 := ⟨_, rfl⟩
       obtain ⟨x2, hx2⟩ : ∃ x, x = y4 + y5 * 4294967296 := ⟨_, rfl⟩
       obtain ⟨x3, hx3⟩ : ∃ x, x = y6 + y7 * 4294967296 := ⟨_, rfl⟩
       rw [← hx0] at o0 d0 HW; rw [← hx1] at o1 d1 HW; rw [← hx2] at o2 d2 HW; rw [← hx3] at o3 d3 HW
       have HW2 : Hid (uw x3 x2 x1 x0 = val ds) := HW
       clear HC HW hx0 hx1 hx2 hx3 hy0 hy1 hy2 hy3 hy4 hy5 hy6 hy7 b0 b1 b2 b3 b4 b5 b6 b7
       go_wp2
       go_region_held3 (fun w' => w'.cell? ⟨w1.heap.size, 0, none⟩ = some (.int .u64 y0) ∧ w'.cell? ⟨w1.heap.size, 1, none⟩ = some (.int .u64 y1) ∧ w'.cell? ⟨w1.heap.size, 2, none⟩ = some (.int .u64 y2) ∧ w'.cell? ⟨w1.heap.size, 3, none⟩ = some (.int .u64 y3) ∧ w'.cell? ⟨w1.heap.size, 4, none⟩ = some (.int .u64 y4) ∧ w'.cell? ⟨w1.heap.size, 5, none⟩ = some (.int .u64 y5) ∧ w'.cell? ⟨w1.heap.size, 6, none⟩ = some (.int .u64 y6) ∧ w'.cell? ⟨w1.heap.size, 7, none⟩ = some (.int .u64 y7)) (first | exact ⟨e0, e1, e2, e3, e4, e5, e6, e7⟩ | exact keep8 hne e0 e1 e2 e3 e4 e5 e6 e7) (fail)
       all_goals go_wp2
       all_goals refine bodyPost_ret (v := .tuple #[.agg #[.int .u64 x3, .int .u64 x2, .int .u64 x1, .int .u64 x0], .bool true]) (by simp [results, Tryz.results66, go_sem, g0, g1, g2, g3]) rfl ?_
       all_goals exact tell_ok d3 d2 d1 d0 HW2.out HS.out (by first | exact (tell_below HBB.out (Nat.le_succ _)).drew | exact tell_below HBB.out (Nat.le_succ _))
 · have hcmp : 0 < cmpI (z.natAbs : Int) 57896044618658097711785492504343953926634992332820282019728792003956564819968 := by unfold cmpI; rw [if_neg (by omega), if_pos (by omega)]; omega
   generalize cmpI (z.natAbs : Int) 57896044618658097711785492504343953926634992332820282019728792003956564819968 = cc at hcmp ⊢
   have HT : Hid (told z = false) := by show _ = _; unfold told; rw [decide_eq_false_iff_not]; omega
   obtain ⟨c0, c1, c2, c3, f0, f1, f2, f3, hz, hB2⟩ := res4' (R := w.heap.size + 1) (by simp) (hA1.mono (by simp))
   have HB : Hid (Below w.heap.size w wb) := ((Below.refl _ _).alloc (Nat.le_refl _) _).trans (hB2.mono (by simp))
   clear hRd1 hA1 hB2 hL0 hD0 HV0
   go_wp2_with fail
   refine bodyPost_ret (v := .tuple #[.agg #[.int .u64 0, .int .u64 0, .int .u64 0, .int .u64 0], .bool false]) (by simp [results, Tryz.results66, go_sem, c0, c1, c2, c3]) rfl ?_
   exact ⟨tell_below HB.out (Nat.le_succ _), Or.inr ⟨HT.out, rfl⟩⟩
theorem toW_any (s : Bool) (ao : Option Addr) (n cap : Nat) (ds : List Int) (z : Int) (k : Nat) (w : World) (h : IsNum w s ao n cap ds z k) (hk : k ≤ 1000000) :
   Calls Tryz.prog 66 #[.agg #[.bool s, .slice ao n cap]] w (TellP z w) := by
 by_cases hz : z < 0
 · have hs : s = true := by rw [h.neg]; simpa using hz
   subst hs
   exact toW_neg ao n cap ds z k w hz h hk
 · have hs : s = false := by rw [h.neg]; simpa using hz
   subst hs
   exact toW_pos ao n cap ds z k w (by omega) h hk
def SwP (z : Int) (w : World) (e : Ending) (w' : World) : Prop :=
 ∃ a3 a2 a1 a0, e = .returned (.agg #[.int .u64 a3, .int .u64 a2, .int .u64 a1, .int .u64 a0]) ∧ Word a3 ∧ Word a2 ∧ Word a1 ∧ Word a0 ∧ sw a3 a2 a1 a0 = z ∧ Below w.heap.size w w'
theorem implOf_any (n : Int) (w : World) (h0 : -9223372036854775808 ≤ n) (h1 : n ≤ 9223372036854775807) :
   Calls Tryz.prog 30 #[.int .i64 n] w (SwP n w) := by
 by_cases hn : n < 0
 · have hd1 : IntKind.u64.wrap (n / 9223372036854775808) = 18446744073709551615 := by rw [IntKind.wrap_u64]; omega
   have hd2 : IntKind.u64.wrap n = n + 18446744073709551616 := by rw [IntKind.wrap_u64]; omega
   go_enter Tryz.func30, Tryz.ntmps30
   go_wp2
   refine bodyPost_ret (v := .agg #[.int .u64 18446744073709551615, .int .u64 18446744073709551615, .int .u64 18446744073709551615, .int .u64 (n + 18446744073709551616)]) (by simp [results, Tryz.results30, go_sem]) rfl ?_
   refine ⟨_, _, _, _, rfl, ⟨by decide, by decide⟩, ⟨by decide, by decide⟩, ⟨by decide, by decide⟩, ⟨by omega, by omega⟩, ?_, (Below.refl _ _).alloc (Nat.le_refl _) _⟩
   unfold sw uw; rw [if_neg (by decide)]; omega
 · have hd1 : n / 9223372036854775808 = 0 := by omega
   go_enter Tryz.func30, Tryz.ntmps30
   go_wp2
   refine bodyPost_ret (v := .agg #[.int .u64 0, .int .u64 0, .int .u64 0, .int .u64 n]) (by simp [results, Tryz.results30, go_sem]) rfl ?_
   refine ⟨_, _, _, _, rfl, ⟨by decide, by decide⟩, ⟨by decide, by decide⟩, ⟨by decide, by decide⟩, ⟨by omega, by omega⟩, ?_, (Below.refl _ _).alloc (Nat.le_refl _) _⟩
   unfold sw uw; rw [if_pos (by decide)]; omega
structure Wd (W : World) (g : Nat) (a3 a2 a1 a0 : Int) : Prop where
 c0 : W.cell? ⟨g, 0, none⟩ = some (.int .u64 a3)
 c1 : W.cell? ⟨g, 1, none⟩ = some (.int .u64 a2)
 c2 : W.cell? ⟨g, 2, none⟩ = some (.int .u64 a1)
 c3 : W.cell? ⟨g, 3, none⟩ = some (.int .u64 a0)
 f0 : W.frozen? ⟨g, 0, none⟩ = false
 f1 : W.frozen? ⟨g, 1, none⟩ = false
 f2 : W.frozen? ⟨g, 2, none⟩ = false
 f3 : W.frozen? ⟨g, 3, none⟩ = false
 lt : g < W.heap.size
theorem Wd.step {W W' : World} {g : Nat} {a3 a2 a1 a0 : Int} (h : Wd W g a3 a2 a1 a0) (hb : Below W.heap.size W W') : Wd W' g a3 a2 a1 a0 := by
 have hc := fun o => hb.cell (p := ⟨g, o, none⟩) h.lt
 have hf := fun o => hb.frozen (p := ⟨g, o, none⟩) h.lt
 exact ⟨(hc _).trans h.c0, (hc _).trans h.c1, (hc _).trans h.c2, (hc _).trans h.c3, (hf _).trans h.f0, (hf _).trans h.f1, (hf _).trans h.f2, (hf _).trans h.f3, Nat.lt_of_lt_of_le h.lt hb.size⟩
theorem Wd.alloc {W : World} {g : Nat} {a3 a2 a1 a0 : Int} (h : Wd W g a3 a2 a1 a0) (o : Obj) : Wd (W.alloc o) g a3 a2 a1 a0 := h.step ((Below.refl _ _).alloc (Nat.le_refl _) o)
theorem Wd.new (W : World) (a3 a2 a1 a0 : Int) (T : TypeId) {g : Nat} (hg : g = W.heap.size) : Wd (W.alloc (Obj.cells #[Value.int IntKind.u64 a3, Value.int IntKind.u64 a2, Value.int IntKind.u64 a1, Value.int IntKind.u64 a0] T)) g a3 a2 a1 a0 := by
 subst hg
 exact ⟨by simp [go_sem], by simp [go_sem], by simp [go_sem], by simp [go_sem], by simp [go_sem], by simp [go_sem], by simp [go_sem], by simp [go_sem], by simp⟩
theorem wordsOf_any (a3 a2 a1 a0 : Int) (w : World) :
   Calls Tryz.prog 98 #[.agg #[.int .u64 a3, .int .u64 a2, .int .u64 a1, .int .u64 a0]] w (WideP a0 a1 a2 a3 w) := by
 go_enter Tryz.func98, Tryz.ntmps98
 go_wp2
 refine bodyPost_ret (v := .agg #[.int .u64 a0, .int .u64 a1, .int .u64 a2, .int .u64 a3]) (by simp [results, Tryz.results98, go_sem]) rfl ?_
 exact ⟨rfl, ((Below.refl _ _).alloc (Nat.le_refl _) _).alloc (by simp) _⟩
theorem words4 {a0 a1 a2 a3 : Int} (h0 : Word a0) (h1 : Word a1) (h2 : Word a2) (h3 : Word a3) : Words [a0, a1, a2, a3] := by
 intro d hd
 simp only [List.mem_cons, List.not_mem_nil, or_false] at hd
 rcases hd with rfl | rfl | rfl | rfl
 · exact h0
 · exact h1
 · exact h2
 · exact h3
theorem words4_of {a0 a1 a2 a3 : Int} (h : Words [a0, a1, a2, a3]) : Word a0 ∧ Word a1 ∧ Word a2 ∧ Word a3 := ⟨h _ (by simp), h _ (by simp), h _ (by simp), h _ (by simp)⟩
theorem val64_4 (a0 a1 a2 a3 : Int) : val64 [a0, a1, a2, a3] = uw a3 a2 a1 a0 := by simp only [val64, uw]; omega
theorem pw64_pos (n : Nat) : 0 < pw64 n := by
 induction n with
 | zero => simp [pw64]
 | succ n ih => simp only [pw64]; omega
theorem val64_lt {a : List Int} (h : Words a) : 0 ≤ val64 a ∧ val64 a < pw64 a.length := by
 induction a with
 | nil => simp [val64, pw64]
 | cons d t ih =>
   have h1 := h d (by simp)
   have h2 := ih (fun x hx => h x (by simp [hx]))
   unfold Word at h1
   simp only [val64, List.length_cons, pw64]; omega
theorem val64_append (a b : List Int) : val64 (a ++ b) = val64 a + pw64 a.length * val64 b := by
 induction a with
 | nil => simp [val64, pw64]
 | cons d t ih => simp only [List.cons_append, val64, List.length_cons, pw64, ih]; grind
theorem val64_split (a : List Int) (k : Nat) (h : k < a.length) : val64 a = val64 (a.take k) + pw64 k * (a[k] + 18446744073709551616 * val64 (a.drop (k + 1))) := by
 have h1 := val64_append (a.take k) (a.drop k)
 rw [List.take_append_drop, List.drop_eq_getElem_cons h] at h1
 simpa [val64, Nat.min_eq_left (Nat.le_of_lt h)] using h1
theorem wd0 : Word 0 := ⟨by decide, by decide⟩
def SizeP (z : Int) (w : World) (e : Ending) (w' : World) : Prop :=
 ∃ x3 x2 x1 x0, e = .returned (.agg #[.int .u64 x0, .int .u64 x1, .int .u64 x2, .int .u64 x3]) ∧ Word x3 ∧ Word x2 ∧ Word x1 ∧ Word x0 ∧ uw x3 x2 x1 x0 = (z.natAbs : Int) ∧ Below w.heap.size w w'
theorem sizeP_set {z : Int} {w W : World} {R : Nat} {e : Ending} {u0 u1 u2 u3 : Value} (hR : w.heap.size ≤ R) (h : SizeP z w e W) : SizeP z w e ((((W.setCell ⟨R, 0, none⟩ u0).setCell ⟨R, 1, none⟩ u1).setCell ⟨R, 2, none⟩ u2).setCell ⟨R, 3, none⟩ u3) := by
 obtain ⟨x3, x2, x1, x0, e1, h3, h2, h1, h0, hu, hB⟩ := h
 exact ⟨x3, x2, x1, x0, e1, h3, h2, h1, h0, hu, tell_below hB hR⟩
theorem sizeOf_any (a3 a2 a1 a0 : Int) (h3 : Word a3) (h2 : Word a2) (h1 : Word a1) (h0 : Word a0) (w : World) :
   Calls Tryz.prog 60 #[.agg #[.int .u64 a3, .int .u64 a2, .int .u64 a1, .int .u64 a0]] w (SizeP (sw a3 a2 a1 a0) w) := by
 have hn := sw_neg h3 h2 h1 h0
 have A0 : Wd ((w.alloc (Obj.cells #[Value.int IntKind.u64 a3, Value.int IntKind.u64 a2, Value.int IntKind.u64 a1, Value.int IntKind.u64 a0] 32)).alloc (Obj.cells #[Value.int IntKind.u64 0, Value.int IntKind.u64 0, Value.int IntKind.u64 0, Value.int IntKind.u64 0] 107)) w.heap.size a3 a2 a1 a0 := (Wd.new _ _ _ _ _ 32 rfl).alloc _
 have R0 : Wd ((w.alloc (Obj.cells #[Value.int IntKind.u64 a3, Value.int IntKind.u64 a2, Value.int IntKind.u64 a1, Value.int IntKind.u64 a0] 32)).alloc (Obj.cells #[Value.int IntKind.u64 0, Value.int IntKind.u64 0, Value.int IntKind.u64 0, Value.int IntKind.u64 0] 107)) (w.heap.size + 1) 0 0 0 0 := Wd.new _ 0 0 0 0 107 (by simp)
 have HB : Below w.heap.size w ((w.alloc (Obj.cells #[Value.int IntKind.u64 a3, Value.int IntKind.u64 a2, Value.int IntKind.u64 a1, Value.int IntKind.u64 a0] 32)).alloc (Obj.cells #[Value.int IntKind.u64 0, Value.int IntKind.u64 0, Value.int IntKind.u64 0, Value.int IntKind.u64 0] 107)) := ((Below.refl _ _).alloc (Nat.le_refl _) _).alloc (by simp) _
 by_cases hp : 9223372036854775808 ≤ a3
 · have hb : (a3 / 9223372036854775808 == 1) = true := beq_iff_eq.2 (by have := h3.2; omega)
   go_enter Tryz.func60, Tryz.ntmps60
   go_wp2_with fail
   refine (isBelow_any a3 a2 a1 a0 h3 true hb _).mono ?_
   rintro e w1 ⟨rfl, hB⟩
   replace A0 := A0.step hB
   replace R0 := R0.step hB
   replace HB := HB.trans (hB.mono HB.size)
   clear hB
   have i0 := A0.c0; have i1 := A0.c1; have i2 := A0.c2; have i3 := A0.c3
   go_wp2_with fail
   refine (wordsOf_any a3 a2 a1 a0 _).mono ?_
   rintro e w2 ⟨rfl, hB⟩
   replace R0 := R0.step hB
   replace HB := HB.trans (hB.mono HB.size)
   clear hB A0 i0 i1 i2 i3
   go_wp2_with fail
   refine (minus4 0 0 0 0 a0 a1 a2 a3 (words4 wd0 wd0 wd0 wd0) (words4 h0 h1 h2 h3) _).mono ?_
   rintro e w3 ⟨zs, c, rfl, g1, g2, g3, g4, g5, hB⟩
   obtain ⟨z0, z1, z2, z3, rfl⟩ := list4 g1
   obtain ⟨l0, l1, l2, l3⟩ := words4_of g2
   rw [val64_4, val64_4, val64_4, show [(0 : Int), 0, 0, 0].length = 4 from rfl] at g5
   replace R0 := R0.step hB
   replace HB := HB.trans (hB.mono HB.size)
   have HP : Hid (SizeP (sw a3 a2 a1 a0) w (.returned (.agg #[.int .u64 z0, .int .u64 z1, .int .u64 z2, .int .u64 z3])) w3) := by
     refine ⟨z3, z2, z1, z0, rfl, l3, l2, l1, l0, ?_, HB⟩
     have e1 : pw64 4 = 115792089237316195423570985008687907853269984665640564039457584007913129639936 := by decide
     rw [e1] at g5
     have e2 : sw a3 a2 a1 a0 = uw a3 a2 a1 a0 - 115792089237316195423570985008687907853269984665640564039457584007913129639936 := by unfold sw; rw [if_neg (by omega)]
     have e3 := uw_bound h3 h2 h1 h0
     have e4 := uw_bound l3 l2 l1 l0
     have e5 : uw 0 0 0 0 = 0 := by decide
     have e6 : uw a3 a2 a1 a0 ≠ 0 := by unfold uw; unfold Word at *; omega
     omega
   have r0 := R0.c0; have r1 := R0.c1; have r2 := R0.c2; have r3 := R0.c3; have f0 := R0.f0; have f1 := R0.f1; have f2 := R0.f2; have f3 := R0.f3
   clear hB g5 g1 g2 g3 g4 HB R0
   go_wp2
   refine bodyPost_ret (v := .agg #[.int .u64 z0, .int .u64 z1, .int .u64 z2, .int .u64 z3]) (by simp [results, Tryz.results60, go_sem, r0, r1, r2, r3]) rfl ?_
   exact sizeP_set (Nat.le_succ _) HP.out
 · have hb : (a3 / 9223372036854775808 == 1) = false := beq_eq_false_iff_ne.2 (by have := h3.1; omega)
   go_enter Tryz.func60, Tryz.ntmps60
   go_wp2_with fail
   refine (isBelow_any a3 a2 a1 a0 h3 false hb _).mono ?_
   rintro e w1 ⟨rfl, hB⟩
   replace A0 := A0.step hB
   replace R0 := R0.step hB
   replace HB := HB.trans (hB.mono HB.size)
   clear hB
   have i0 := A0.c0; have i1 := A0.c1; have i2 := A0.c2; have i3 := A0.c3
   go_wp2_with fail
   refine (wordsOf_any a3 a2 a1 a0 _).mono ?_
   rintro e w2 ⟨rfl, hB⟩
   replace R0 := R0.step hB
   replace HB := HB.trans (hB.mono HB.size)
   have HP : Hid (SizeP (sw a3 a2 a1 a0) w (.returned (.agg #[.int .u64 a0, .int .u64 a1, .int .u64 a2, .int .u64 a3])) w2) := by
     refine ⟨a3, a2, a1, a0, rfl, h3, h2, h1, h0, ?_, HB⟩
     have e2 : sw a3 a2 a1 a0 = uw a3 a2 a1 a0 := by unfold sw; rw [if_pos (by omega)]
     have e3 := uw_bound h3 h2 h1 h0
     omega
   have r0 := R0.c0; have r1 := R0.c1; have r2 := R0.c2; have r3 := R0.c3; have f0 := R0.f0; have f1 := R0.f1; have f2 := R0.f2; have f3 := R0.f3
   clear hB HB R0 A0 i0 i1 i2 i3
   go_wp2
   refine bodyPost_ret (v := .agg #[.int .u64 a0, .int .u64 a1, .int .u64 a2, .int .u64 a3]) (by simp [results, Tryz.results60, go_sem, r0, r1, r2, r3]) rfl ?_
   exact sizeP_set (Nat.le_succ _) HP.out
def CountP (xs : List Int) (w : World) (e : Ending) (w' : World) : Prop :=
 ∃ n : Nat, e = .returned (.int .i64 n) ∧ n ≤ xs.length ∧ (∀ j, n ≤ j → (h : j < xs.length) → xs[j] = 0) ∧ (∀ m, n = m + 1 → (h : m < xs.length) → xs[m] ≠ 0) ∧ w' = w
theorem count_some (w : World) {xs : List Int} {m : Nat} (hm : m < xs.length) (h0 : xs[m] ≠ 0) (hz : ∀ j, m + 1 ≤ j → (h : j < xs.length) → xs[j] = 0) (v : Int) (hv : v = ((m + 1 : Nat) : Int)) : CountP xs w (.returned (.int .i64 v)) w :=
 ⟨m + 1, by rw [hv], hm, hz, fun i hi hl => by
   have : m = i := by omega
   subst this
   exact h0, rfl⟩
theorem countWords_any (A off n cap : Nat) (xs : List Int) (w : World) (hn : xs.length = n) (hr : Row w A off xs) (hm : n ≤ 1000) :
   Calls Tryz.prog 62 #[.slice (some ⟨A, off, none⟩) n cap] w (CountP xs w) := by
 go_enter Tryz.func62, Tryz.ntmps62
 go_wp2
 go_loop [3] (fun i => ∃ k : Nat, k ≤ n ∧ i = .int .i64 k ∧ ∀ j, k ≤ j → (h : j < xs.length) → xs[j] = 0) (fun i => (intOf i).toNat)
 case atStart => exact ⟨n, Nat.le_refl _, rfl, fun j h1 h2 => by omega⟩
 case round =>
   obtain ⟨k, hk, rfl, hz⟩ := hrel
   have HN : Hid (xs.length = n) := hn
   have HZ : Hid (∀ j, k ≤ j → (h : j < xs.length) → xs[j] = 0) := hz
   have HR : Hid (Row w A off xs) := hr
   clear hz hr hn
   by_cases hk0 : 0 < k
   · obtain ⟨m, rfl⟩ : ∃ m, k = m + 1 := ⟨k - 1, by omega⟩
     have hml : m < xs.length := by have := HN.out; omega
     have hcell := HR.out.cell m hml
     go_wp2
     · go_round
       case rel =>
         have h0 : (xs[m] == 0) = true := by assumption
         exact ⟨m, by omega, by go_num, fun j h1 h2 => by
           by_cases e : j = m
           · subst e; simpa using h0
           · exact HZ.out j (by omega) h2⟩
       case measure => simp [intOf]
     · have h0 : (xs[m] == 0) = false := by assumption
       go_ret
       exact count_some w hml (by simpa using h0) HZ.out _ (by omega)
   · go_wp2
     go_ret
     exact ⟨k, rfl, by have := HN.out; omega, HZ.out, fun i hi => by omega, rfl⟩
theorem bits_words {xs : List Int} (hw : Words xs) (m : Nat) (hm : m < xs.length) (hz : ∀ j, m + 1 ≤ j → (h : j < xs.length) → xs[j] = 0) (h0 : xs[m] ≠ 0) {b : Nat} (hb : BitsOf xs[m] b) : BitsOf (val64 xs) (64 * m + b) := by
 have hd : val64 (xs.drop (m + 1)) = 0 := by
   have e : xs.drop (m + 1) = List.replicate (xs.length - (m + 1)) 0 := by
     apply List.ext_getElem
     · simp
     · intro i h1 h2
       simp only [List.getElem_drop, List.getElem_replicate]
       exact hz _ (by omega) _
   rw [e]
   generalize xs.length - (m + 1) = q
   induction q with
   | zero => rfl
   | succ q ih => simp [List.replicate_succ, val64, ih]
 have hl := val64_lt (a := xs.take m) (fun x hx => hw x (List.mem_of_mem_take hx))
 have e3 : (xs.take m).length = m := by simp; omega
 rw [e3] at hl
 rw [val64_split xs m hm, hd]
 simp only [Int.mul_zero, Int.add_zero]
 have hp : (2 : Int) ^ (64 * m) = pw64 m := by
   clear hd hl e3 hz h0 hb hm
   induction m with
   | zero => rfl
   | succ m ih => rw [show 64 * (m + 1) = 64 * m + 64 by omega, Int.pow_add, ih, pw64, show (2 : Int) ^ 64 = 18446744073709551616 by decide, Int.mul_comm]
 obtain ⟨g0, g1, g2⟩ := hb
 have p0 := pw64_pos m
 generalize xs[m] = t at *
 have ht : 0 < t := by omega
 refine ⟨by have := Int.mul_nonneg (Int.le_of_lt p0) g0; omega, ?_, Or.inr ?_⟩
 · rw [Int.pow_add, hp]
   have : pw64 m * (t + 1) ≤ pw64 m * 2 ^ b := Int.mul_le_mul_of_nonneg_left (by omega) (by omega)
   rw [Int.mul_add] at this
   omega
 · have hb0 : b ≠ 0 := by rintro rfl; simp at g1; omega
   rcases g2 with g2 | g2
   · exact absurd g2 hb0
   · rw [show 64 * m + b - 1 = 64 * m + (b - 1) by omega, Int.pow_add, hp]
     have : pw64 m * 2 ^ (b - 1) ≤ pw64 m * t := Int.mul_le_mul_of_nonneg_left g2 (by omega)
     omega
theorem implBits_any (a3 a2 a1 a0 : Int) (h3 : Word a3) (h2 : Word a2) (h1 : Word a1) (h0 : Word a0) (w : World) :
   Calls Tryz.prog 110 #[.agg #[.int .u64 a3, .int .u64 a2, .int .u64 a1, .int .u64 a0]] w (BitsP ((sw a3 a2 a1 a0).natAbs : Int) w) := by
 go_enter Tryz.func110, Tryz.ntmps110
 go_wp2_with fail
 refine (sizeOf_any a3 a2 a1 a0 h3 h2 h1 h0 _).mono ?_
 rintro e w1 ⟨x3, x2, x1, x0, rfl, l3, l2, l1, l0, hu, hB⟩
 have hB1 : Below w.heap.size w w1 := ((Below.refl _ _).alloc (Nat.le_refl _) _).trans (hB.mono (by simp))
 clear hB
 have HU : Hid (uw x3 x2 x1 x0 = ((sw a3 a2 a1 a0).natAbs : Int)) := hu
 clear hu
 have G0 := Wd.new w1 x0 x1 x2 x3 107 rfl
 have HR := row_of4 G0.lt G0.c0 G0.c1 G0.c2 G0.c3 G0.f0 G0.f1 G0.f2 G0.f3
 have hB2 := hB1.alloc hB1.size (Obj.cells #[Value.int IntKind.u64 x0, Value.int IntKind.u64 x1, Value.int IntKind.u64 x2, Value.int IntKind.u64 x3] 107)
 clear G0
 go_wp2_with fail
 refine (countWords_any w1.heap.size 0 4 4 [x0, x1, x2, x3] _ rfl HR (by omega)).mono ?_
 rintro e w2 ⟨n, rfl, hn, hz, hnz, rfl⟩
 have HW := words4 l0 l1 l2 l3
 have HV := val64_4 x0 x1 x2 x3
 generalize hxs : [x0, x1, x2, x3] = xs at *
 have hlx : xs.length = 4 := by rw [← hxs]; rfl
 rw [hlx] at hn
 by_cases hn0 : n = 0
 · subst hn0
   have hv0 : val64 xs = 0 := by
     rw [HV]
     have c0 := hz 0 (by omega) (by omega); have c1 := hz 1 (by omega) (by omega); have c2 := hz 2 (by omega) (by omega); have c3 := hz 3 (by omega) (by omega)
     subst hxs
     simp at c0 c1 c2 c3
     subst c0 c1 c2 c3
     decide
   have HE : Hid (((sw a3 a2 a1 a0).natAbs : Int) = 0) := by show _ = _; rw [← HU.out, ← HV, hv0]
   clear hz hnz HR HW HV hv0 hlx hxs
   go_wp2
   go_ret
   exact ⟨0, rfl, by rw [HE.out]; exact ⟨by decide, by decide, Or.inl rfl⟩, hB2⟩
 · obtain ⟨m, rfl⟩ : ∃ m, n = m + 1 := ⟨n - 1, by omega⟩
   have hml : m < xs.length := by omega
   have hnz' := hnz m rfl hml
   have hc := HR.cell m hml
   rw [Nat.zero_add] at hc
   have hwm := words_at HW m hml
   have HB := fun b hb => bits_words HW m hml hz hnz' (b := b) hb
   rw [HV, HU.out] at HB
   have HB' : Hid (∀ b : Nat, BitsOf xs[m] b → BitsOf ((sw a3 a2 a1 a0).natAbs : Int) (64 * m + b)) := HB
   have hm4 : (m : Int) < 4 := by omega
   have hmn : ((m : Int) + 1 == 0) = false := beq_eq_false_iff_ne.2 (by omega)
   clear hz hnz HR HW HV hxs HB hnz'
   go_wp2_with fail
   refine (len64_any xs[m] hwm _).mono ?_
   rintro e w3 ⟨b, rfl, hb, hB3⟩
   have hb64 : b ≤ 64 := (bits_le hb 64).2 (by rw [show (2 : Int) ^ 64 = 18446744073709551616 by decide]; exact hwm.2)
   have HH : Hid (BitsOf ((sw a3 a2 a1 a0).natAbs : Int) (64 * m + b)) := HB'.out b hb
   have hB4 := hB2.trans (hB3.mono hB2.size)
   clear hb hB3 hB2 HB'
   go_wp2
   go_ret
   exact ⟨64 * m + b, ret_int (by omega), HH.out, hB4⟩
theorem liftUp_det (xs : List Int) (r : Nat) (hl : xs.length = 8) (hx : Words xs) (hr : r < 64) (zs : List Int) (zl : zs.length = 9) (zw : Words zs) (zv : val64 zs = 2 ^ r * val64 xs) (w : World) : Calls Tryz.prog 123 #[agg xs, .int .i64 r] w (fun e w' => e = .returned (agg zs) ∧ Below w.heap.size w w') := by
 refine (liftUp_any xs r hl hx hr w).mono ?_
 rintro e w1 ⟨us, rfl, h1, h2, h3, hB⟩
 obtain rfl : us = zs := val64_inj h2 zw (h1.trans zl.symm) (h3.trans zv.symm)
 exact ⟨rfl, hB⟩
theorem dl_cells {x0 x1 x2 x3 x4 x5 x6 x7 y0 y1 y2 y3 y4 y5 y6 y7 : Int} {w W : World} (h : ArgsB w W [[.int .u64 x0, .int .u64 x1, .int .u64 x2, .int .u64 x3, .int .u64 x4, .int .u64 x5, .int .u64 x6, .int .u64 x7], [.int .u64 y0, .int .u64 y1, .int .u64 y2, .int .u64 y3, .int .u64 y4, .int .u64 y5, .int .u64 y6, .int .u64 y7], [.int .u64 0, .int .u64 0, .int .u64 0, .int .u64 0, .int .u64 0, .int .u64 0, .int .u64 0, .int .u64 0], [.int .u64 0, .int .u64 0, .int .u64 0, .int .u64 0, .int .u64 0, .int .u64 0, .int .u64 0, .int .u64 0]]) : (fun w' => w'.cell? ⟨w.heap.size, 0, none⟩ = some (.int .u64 x0) ∧ w'.cell? ⟨w.heap.size, 1, none⟩ = some (.int .u64 x1) ∧ w'.cell? ⟨w.heap.size, 2, none⟩ = some (.int .u64 x2) ∧ w'.cell? ⟨w.heap.size, 3, none⟩ = some (.int .u64 x3) ∧ w'.cell? ⟨w.heap.size, 4, none⟩ = some (.int .u64 x4) ∧ w'.cell? ⟨w.heap.size, 5, none⟩ = some (.int .u64 x5) ∧ w'.cell? ⟨w.heap.size, 6, none⟩ = some (.int .u64 x6) ∧ w'.cell? ⟨w.heap.size, 7, none⟩ = some (.int .u64 x7) ∧ w'.cell? ⟨w.heap.size + 1, 0, none⟩ = some (.int .u64 y0) ∧ w'.cell? ⟨w.heap.size + 1, 1, none⟩ = some (.int .u64 y1) ∧ w'.cell? ⟨w.heap.size + 1, 2, none⟩ = some (.int .u64 y2) ∧ w'.cell? ⟨w.heap.size + 1, 3, none⟩ = some (.int .u64 y3) ∧ w'.cell? ⟨w.heap.size + 1, 4, none⟩ = some (.int .u64 y4) ∧ w'.cell? ⟨w.heap.size + 1, 5, none⟩ = some (.int .u64 y5) ∧ w'.cell? ⟨w.heap.size + 1, 6, none⟩ = some (.int .u64 y6) ∧ w'.cell? ⟨w.heap.size + 1, 7, none⟩ = some (.int .u64 y7)) W :=
 ⟨(h.b 0 rfl).c 0 rfl, (h.b 0 rfl).c 1 rfl, (h.b 0 rfl).c 2 rfl, (h.b 0 rfl).c 3 rfl, (h.b 0 rfl).c 4 rfl, (h.b 0 rfl).c 5 rfl, (h.b 0 rfl).c 6 rfl, (h.b 0 rfl).c 7 rfl, (h.b 1 rfl).c 0 rfl, (h.b 1 rfl).c 1 rfl, (h.b 1 rfl).c 2 rfl, (h.b 1 rfl).c 3 rfl, (h.b 1 rfl).c 4 rfl, (h.b 1 rfl).c 5 rfl, (h.b 1 rfl).c 6 rfl, (h.b 1 rfl).c 7 rfl⟩
theorem dl_args (x0 x1 x2 x3 x4 x5 x6 x7 y0 y1 y2 y3 y4 y5 y6 y7 : Int) (w : World) : ArgsB w ((((w.alloc (.cells #[.int .u64 x0, .int .u64 x1, .int .u64 x2, .int .u64 x3, .int .u64 x4, .int .u64 x5, .int .u64 x6, .int .u64 x7] 68)).alloc (.cells #[.int .u64 y0, .int .u64 y1, .int .u64 y2, .int .u64 y3, .int .u64 y4, .int .u64 y5, .int .u64 y6, .int .u64 y7] 68)).alloc (.cells #[.int .u64 0, .int .u64 0, .int .u64 0, .int .u64 0, .int .u64 0, .int .u64 0, .int .u64 0, .int .u64 0] 68)).alloc (.cells #[.int .u64 0, .int .u64 0, .int .u64 0, .int .u64 0, .int .u64 0, .int .u64 0, .int .u64 0, .int .u64 0] 68)) [[.int .u64 x0, .int .u64 x1, .int .u64 x2, .int .u64 x3, .int .u64 x4, .int .u64 x5, .int .u64 x6, .int .u64 x7], [.int .u64 y0, .int .u64 y1, .int .u64 y2, .int .u64 y3, .int .u64 y4, .int .u64 y5, .int .u64 y6, .int .u64 y7], [.int .u64 0, .int .u64 0, .int .u64 0, .int .u64 0, .int .u64 0, .int .u64 0, .int .u64 0, .int .u64 0], [.int .u64 0, .int .u64 0, .int .u64 0, .int .u64 0, .int .u64 0, .int .u64 0, .int .u64 0, .int .u64 0]] := by
 refine ⟨((((Below.refl _ _).alloc (Nat.le_refl _) _).alloc (by simp) _).alloc (by simp; omega) _).alloc (by simp; omega) _, fun j vs hj => ?_⟩
 match j, hj with
 | 0, hj => cases hj; exact (((Blk.new w [.int .u64 x0, .int .u64 x1, .int .u64 x2, .int .u64 x3, .int .u64 x4, .int .u64 x5, .int .u64 x6, .int .u64 x7] 68 rfl).alloc _).alloc _).alloc _
 | 1, hj => cases hj; exact ((Blk.new (w.alloc (.cells #[.int .u64 x0, .int .u64 x1, .int .u64 x2, .int .u64 x3, .int .u64 x4, .int .u64 x5, .int .u64 x6, .int .u64 x7] 68)) [.int .u64 y0, .int .u64 y1, .int .u64 y2, .int .u64 y3, .int .u64 y4, .int .u64 y5, .int .u64 y6, .int .u64 y7] 68 (by simp)).alloc _).alloc _
 | 2, hj => cases hj; exact (Blk.new ((w.alloc (.cells #[.int .u64 x0, .int .u64 x1, .int .u64 x2, .int .u64 x3, .int .u64 x4, .int .u64 x5, .int .u64 x6, .int .u64 x7] 68)).alloc (.cells #[.int .u64 y0, .int .u64 y1, .int .u64 y2, .int .u64 y3, .int .u64 y4, .int .u64 y5, .int .u64 y6, .int .u64 y7] 68)) [.int .u64 0, .int .u64 0, .int .u64 0, .int .u64 0, .int .u64 0, .int .u64 0, .int .u64 0, .int .u64 0] 68 (by simp)).alloc _
 | 3, hj => cases hj; exact Blk.new (((w.alloc (.cells #[.int .u64 x0, .int .u64 x1, .int .u64 x2, .int .u64 x3, .int .u64 x4, .int .u64 x5, .int .u64 x6, .int .u64 x7] 68)).alloc (.cells #[.int .u64 y0, .int .u64 y1, .int .u64 y2, .int .u64 y3, .int .u64 y4, .int .u64 y5, .int .u64 y6, .int .u64 y7] 68)).alloc (.cells #[.int .u64 0, .int .u64 0, .int .u64 0, .int .u64 0, .int .u64 0, .int .u64 0, .int .u64 0, .int .u64 0] 68)) [.int .u64 0, .int .u64 0, .int .u64 0, .int .u64 0, .int .u64 0, .int .u64 0, .int .u64 0, .int .u64 0] 68 (by simp)
 | j + 4, hj => simp at hj
theorem ArgsB.lt4 {w W : World} {a b c d : List Value} (h : ArgsB w W [a, b, c, d]) : w.heap.size + 3 < W.heap.size := (h.b 3 rfl).lt
theorem Blk.newS (W : World) (o : Obj) (vs : List Value) (T : TypeId) : Blk ((W.alloc o).alloc (.cells vs.toArray T)) (W.heap.size + 1) vs := Blk.new _ _ _ (by simp)
theorem size_cells (b : Nat) : ∀ (vs : List Value) (o : Nat) (w : World), (w.setCells b o vs).heap.size = w.heap.size
 | [], _, _ => rfl
 | v :: r, o, w => by rw [World.setCells, size_cells b r]; simp [World.setCell]
theorem Blk.cellsO {g b : Nat} {zs : List Value} (hne : g ≠ b) : ∀ (vs : List Value) (o : Nat) {w : World}, Blk w g zs → Blk (w.setCells b o vs) g zs
 | [], _, _, h => h
 | v :: r, o, w, h => by rw [World.setCells]; exact Blk.cellsO hne r (o + 1) (h.setO hne v)
theorem Blk.cellsI {w : World} {g : Nat} {zs vs : List Value} (h : Blk w g zs) (hl : vs.length = zs.length) : Blk (w.setCells g 0 vs) g vs := by
 refine ⟨by rw [size_cells]; exact h.lt, fun i v hi => ?_⟩
 have hil : i < vs.length := by
   apply Decidable.byContradiction
   intro hn
   rw [List.getElem?_eq_none (by omega)] at hi
   simp at hi
 have hc : ∀ j, j < vs.length → (w.cell? ⟨g, 0 + j, none⟩).isSome = true := fun j hj => by
   rw [Nat.zero_add, h.c j (List.getElem?_eq_getElem (by omega))]; rfl
 have e := World.cell?_setCells_in g vs 0 w hc i hil
 rw [Nat.zero_add] at e
 rw [List.getElem?_eq_getElem hil] at hi
 cases hi
 exact ⟨e, by rw [World.frozen?_setCells]; exact h.f i (List.getElem?_eq_getElem (by omega))⟩
theorem below_cells {B g : Nat} {w0 : World} (hg : B ≤ g) : ∀ (vs : List Value) (o : Nat) {w : World}, Below B w0 w → Below B w0 (w.setCells g o vs)
 | [], _, _, h => h
 | v :: r, o, w, h => by rw [World.setCells]; exact below_cells hg r (o + 1) (h.setCell hg v)
theorem ArgsB.cells {w W : World} {a b c d : List Value} (h : ArgsB w W [a, b, c, d]) {g : Nat} (hg : w.heap.size + 3 < g) (vs : List Value) : ArgsB w (W.setCells g 0 vs) [a, b, c, d] := by
 refine ⟨below_cells (by omega) vs 0 h.1, fun j us hj => Blk.cellsO ?_ vs 0 (h.2 j us hj)⟩
 have : j < 4 := by
   apply Decidable.byContradiction
   intro hn
   rw [List.getElem?_eq_none (by simp; omega)] at hj
   simp at hj
 omega
theorem Blk.there {W : World} {g : Nat} {vs : List Value} (h : Blk W g vs) {n : Nat} (hn : vs.length = n) : W.there g 0 n := fun j hj => by
 rw [Nat.zero_add, h.c j (List.getElem?_eq_getElem (by omega)), h.f j (List.getElem?_eq_getElem (by omega))]
 exact ⟨rfl, rfl⟩
theorem there_cells (W : World) (b : Nat) (vs : List Value) (g n : Nat) (h : W.there g 0 n) : (W.setCells b 0 vs).there g 0 n := World.there_setCells h b 0 vs
theorem ArgsB.set9 {w W : World} {a b c d : List Value} (h : ArgsB w W [a, b, c, d]) {g : Nat} (hg : w.heap.size + 3 < g) (v0 v1 v2 v3 v4 v5 v6 v7 v8 : Value) : ArgsB w (((((((((W.setCell ⟨g, 0, none⟩ v0).setCell ⟨g, 1, none⟩ v1).setCell ⟨g, 2, none⟩ v2).setCell ⟨g, 3, none⟩ v3).setCell ⟨g, 4, none⟩ v4).setCell ⟨g, 5, none⟩ v5).setCell ⟨g, 6, none⟩ v6).setCell ⟨g, 7, none⟩ v7).setCell ⟨g, 8, none⟩ v8) [a, b, c, d] :=
 (((((((((h.set (by exact hg) _).set (by exact hg) _).set (by exact hg) _).set (by exact hg) _).set (by exact hg) _).set (by exact hg) _).set (by exact hg) _).set (by exact hg) _).set (by exact hg) _)
theorem Blk.stored9 {W : World} {g : Nat} {z0 z1 z2 z3 z4 z5 z6 z7 z8 : Value} (G : Blk W g [z0, z1, z2, z3, z4, z5, z6, z7, z8]) (v0 v1 v2 v3 v4 v5 v6 v7 v8 : Value) : Blk (((((((((W.setCell ⟨g, 0, none⟩ v0).setCell ⟨g, 1, none⟩ v1).setCell ⟨g, 2, none⟩ v2).setCell ⟨g, 3, none⟩ v3).setCell ⟨g, 4, none⟩ v4).setCell ⟨g, 5, none⟩ v5).setCell ⟨g, 6, none⟩ v6).setCell ⟨g, 7, none⟩ v7).setCell ⟨g, 8, none⟩ v8) g [v0, v1, v2, v3, v4, v5, v6, v7, v8] :=
 (((((((((G.setI 0 (by simp) v0).setI 1 (by simp) v1).setI 2 (by simp) v2).setI 3 (by simp) v3).setI 4 (by simp) v4).setI 5 (by simp) v5).setI 6 (by simp) v6).setI 7 (by simp) v7).setI 8 (by simp) v8)
theorem Blk.set9 {W : World} {vs : List Value} {v0 v1 v2 v3 v4 v5 v6 v7 v8 : Value} {g g' : Nat} (G : Blk W g' vs) (hg : g' ≠ g) : Blk (((((((((W.setCell ⟨g, 0, none⟩ v0).setCell ⟨g, 1, none⟩ v1).setCell ⟨g, 2, none⟩ v2).setCell ⟨g, 3, none⟩ v3).setCell ⟨g, 4, none⟩ v4).setCell ⟨g, 5, none⟩ v5).setCell ⟨g, 6, none⟩ v6).setCell ⟨g, 7, none⟩ v7).setCell ⟨g, 8, none⟩ v8) g' vs :=
 (((((((((G.setO (by exact hg) _).setO (by exact hg) _).setO (by exact hg) _).setO (by exact hg) _).setO (by exact hg) _).setO (by exact hg) _).setO (by exact hg) _).setO (by exact hg) _).setO (by exact hg) _)
theorem below_set8 {B g : Nat} {w W : World} {v0 v1 v2 v3 v4 v5 v6 v7 : Value} (hg : B ≤ g) (h : Below B w W) : Below B w ((((((((W.setCell ⟨g, 0, none⟩ v0).setCell ⟨g, 1, none⟩ v1).setCell ⟨g, 2, none⟩ v2).setCell ⟨g, 3, none⟩ v3).setCell ⟨g, 4, none⟩ v4).setCell ⟨g, 5, none⟩ v5).setCell ⟨g, 6, none⟩ v6).setCell ⟨g, 7, none⟩ v7) :=
 ((((((((h.setCell hg _).setCell hg _).setCell hg _).setCell hg _).setCell hg _).setCell hg _).setCell hg _).setCell hg _)
def CutD (w wx : World) (vss : List (List Value)) (xs ys : List Value) (p q : Value) : Prop :=
 ∃ g g', p = .pointer (some ⟨g, 0, none⟩) ∧ q = .pointer (some ⟨g', 0, none⟩) ∧ g ≠ g' ∧ w.heap.size + 3 < g ∧ w.heap.size + 3 < g' ∧ ArgsB w wx vss ∧ Blk wx g xs ∧ Blk wx g' ys
theorem cutD_cells {w X : World} {a b c d : List Value} {zs zs' xs ys : List Value} {g g' : Nat} (h : ArgsB w X [a, b, c, d]) (G : Blk X g zs) (G' : Blk X g' zs') (lx : zs.length = xs.length) (ly : zs'.length = ys.length) (hg : w.heap.size + 3 < g) (hg' : w.heap.size + 3 < g') (hne : g ≠ g') :
   CutD w ((X.setCells g 0 xs).setCells g' 0 ys) [a, b, c, d] xs ys (.pointer (some ⟨g, 0, none⟩)) (.pointer (some ⟨g', 0, none⟩)) :=
 ⟨_, _, rfl, rfl, hne, hg, hg', (h.cells hg _).cells hg' _, Blk.cellsO hne _ _ (G.cellsI lx.symm), (Blk.cellsO (fun e => hne e.symm) _ _ G').cellsI ly.symm⟩
end Go.Proofs.YtpnnpkchogooaaaGreat
