/- Part 8 of the walks that the proof leans on. -/
import Derived.Test.YtnnojeggjnddpaaPart7
import Derived.Laws.BytesArg
import Derived.Test.YtnnojeggjnddpaaPart2
import Derived.Test.YtnnojeggjnddpaaPart4
import Derived.Test.YtnnojeggjnddpaaPart6
import Derived.Laws.BitsLemmas
import Derived.Test.YtnnojeggjnddpaaPart1
import Derived.Test.YtnnojeggjnddpaaPart3
import Derived.Test.YtnnojeggjnddpaaPart5
/- Fractions drawn from a code. -/
namespace Go.Proofs.Ytnnojeggjnddpaa
open Go.RowKit
set_option maxRecDepth 100000 in
set_option maxHeartbeats 1000000 in
theorem near_m20 (g : Nat) (ao : Option Addr) (n cap : Nat) (cs : List Int) (w : World) (h : Rdr w g ao n cap cs) :
    Calls Try.prog 102 #[.pointer (some ⟨g, 0, none⟩), .int .i64 (-20), .int .i64 20] w (RdP g ao n cap cs (IsIn (-20) 21) w) := by
  go_enter Try.func102, Try.ntmps102
  go_wp2_with fail
  refine (below_any 8 (by decide) (by decide) g ao n cap cs _ h).mono ?_
  rintro e w1 ⟨_, rfl, ⟨x, rfl, x0, x1⟩, R, K⟩
  clear h
  by_cases h0 : x = 0
  · subst h0
    go_wp2
    go_ret
    exact ⟨_, rfl, ⟨_, rfl, by decide, by decide⟩, R, K⟩
  · by_cases h1 : x = 1
    · subst h1
      go_wp2
      go_ret
      exact ⟨_, rfl, ⟨_, rfl, by decide, by decide⟩, R, K⟩
    · have e0 : (x == 0) = false := by simpa using h0
      have e1 : (x == 1) = false := by simpa using h1
      go_wp2_with fail
      refine (word_any g ao n cap cs _ R).mono ?_
      rintro e w2 ⟨_, rfl, ⟨y, rfl, y0, y1⟩, R2, K2⟩
      replace K := K.trans K2
      clear R K2
      have hw : IntKind.u64.wrap 41 = 41 := by rw [IntKind.wrap_u64]; decide
      go_wp2
      go_ret
      exact ⟨_, rfl, ⟨_, rfl, by omega, by omega⟩, R2, K⟩
set_option maxRecDepth 100000 in
set_option maxHeartbeats 1000000 in
theorem near_p11 (g : Nat) (ao : Option Addr) (n cap : Nat) (cs : List Int) (w : World) (h : Rdr w g ao n cap cs) :
    Calls Try.prog 102 #[.pointer (some ⟨g, 0, none⟩), .int .i64 0, .int .i64 11] w (RdP g ao n cap cs (IsIn 0 12) w) := by
  go_enter Try.func102, Try.ntmps102
  go_wp2_with fail
  refine (below_any 8 (by decide) (by decide) g ao n cap cs _ h).mono ?_
  rintro e w1 ⟨_, rfl, ⟨x, rfl, x0, x1⟩, R, K⟩
  clear h
  by_cases h0 : x = 0
  · subst h0
    go_wp2
    go_ret
    exact ⟨_, rfl, ⟨_, rfl, by decide, by decide⟩, R, K⟩
  · by_cases h1 : x = 1
    · subst h1
      go_wp2
      go_ret
      exact ⟨_, rfl, ⟨_, rfl, by decide, by decide⟩, R, K⟩
    · have e0 : (x == 0) = false := by simpa using h0
      have e1 : (x == 1) = false := by simpa using h1
      go_wp2_with fail
      refine (word_any g ao n cap cs _ R).mono ?_
      rintro e w2 ⟨_, rfl, ⟨y, rfl, y0, y1⟩, R2, K2⟩
      replace K := K.trans K2
      clear R K2
      have hw : IntKind.u64.wrap 12 = 12 := by rw [IntKind.wrap_u64]; decide
      go_wp2
      go_ret
      exact ⟨_, rfl, ⟨_, rfl, by omega, by omega⟩, R2, K⟩
theorem told_i {x : Int} (h0 : -100 ≤ x) (h1 : x ≤ 100) : told x = true := by
  unfold told
  exact decide_eq_true ⟨by omega, by omega⟩
theorem wideW4 {v : Value} (h : IsWide v) : ∃ x : Int, v = W4 x ∧ told x = true := by
  obtain ⟨a3, a2, a1, a0, rfl, h3, h2, h1, h0⟩ := h
  obtain ⟨f3, f2, f1, f0⟩ := wd_of h3 h2 h1 h0 rfl
  have ht : told (sw a3 a2 a1 a0) = true := by
    unfold told
    exact decide_eq_true (sw_bound h3 h2 h1 h0)
  exact ⟨sw a3 a2 a1 a0, by show _ = Value.agg _; rw [← f3, ← f2, ← f1, ← f0], ht⟩
theorem ofS_det (n d : Int) (hn : told n = true) (hd : told d = true) (w : World) : Calls Try.prog 105 #[W4 n, W4 d] w (VP (ratV n d) w) := by
  obtain ⟨a3, a2, a1, a0⟩ := ww_words n
  obtain ⟨b3, b2, b1, b0⟩ := ww_words d
  have h := specRatioOf_any (ww3 n) (ww2 n) (ww1 n) (ww0 n) (ww3 d) (ww2 d) (ww1 d) (ww0 d) a3 a2 a1 a0 b3 b2 b1 b0 w
  rw [ww_sw hn, ww_sw hd] at h
  exact h
theorem ofW_spec (n : Int) (w : World) (h0 : -9223372036854775808 ≤ n) (h1 : n ≤ 9223372036854775807) : Calls Try.prog 60 #[.int .i64 n] w (VP (W4 n) w) := by
  refine (specOf_any n w h0 h1).mono ?_
  rintro e w' ⟨a3, a2, a1, a0, rfl, g3, g2, g1, g0, hs, hB⟩
  obtain ⟨rfl, rfl, rfl, rfl⟩ := wd_of g3 g2 g1 g0 hs
  exact ⟨rfl, hB⟩
/-- A fraction, whatever its numbers. -/
def IsRt (v : Value) : Prop := ∃ x y : Int, v = RZ x y ∧ told x = true ∧ told y = true
theorem rdr_set8 {W : World} {g gx : Nat} {ao : Option Addr} {n cap : Nat} {cs : List Int} {v0 v1 v2 v3 v4 v5 v6 v7 : Value} (hx : g < gx) (R : Rdr W g ao n cap cs) : Rdr ((((((((W.setCell ⟨gx, 0, none⟩ v0).setCell ⟨gx, 1, none⟩ v1).setCell ⟨gx, 2, none⟩ v2).setCell ⟨gx, 3, none⟩ v3).setCell ⟨gx, 4, none⟩ v4).setCell ⟨gx, 5, none⟩ v5).setCell ⟨gx, 6, none⟩ v6).setCell ⟨gx, 7, none⟩ v7) g ao n cap cs := by
  repeat' (refine Rdr.setN ?_ (by exact hx) _)
  exact R
theorem kept_set8 {w W : World} {g gx : Nat} {v0 v1 v2 v3 v4 v5 v6 v7 : Value} (hm : w.heap.size ≤ gx) (hx : gx ≠ g) (K : Kept g w W) : Kept g w ((((((((W.setCell ⟨gx, 0, none⟩ v0).setCell ⟨gx, 1, none⟩ v1).setCell ⟨gx, 2, none⟩ v2).setCell ⟨gx, 3, none⟩ v3).setCell ⟨gx, 4, none⟩ v4).setCell ⟨gx, 5, none⟩ v5).setCell ⟨gx, 6, none⟩ v6).setCell ⟨gx, 7, none⟩ v7) := by
  repeat' (refine Kept.setN ?_ (by exact hm) (by exact hx.symm) _)
  exact K
theorem rt_done {w W : World} {g : Nat} {ao : Option Addr} {n cap : Nat} {cs : List Int} {a b : Int} (hg : g < w.heap.size) (R : Rdr W g ao n cap cs) (K : Kept g w W) (ta : told a = true) (tb : told b = true) {v0 v1 v2 v3 v4 v5 v6 v7 : Value} :
    RdP g ao n cap cs IsRt w (.returned (RZ a b)) ((((((((W.setCell ⟨w.heap.size, 0, none⟩ v0).setCell ⟨w.heap.size, 1, none⟩ v1).setCell ⟨w.heap.size, 2, none⟩ v2).setCell ⟨w.heap.size, 3, none⟩ v3).setCell ⟨w.heap.size, 4, none⟩ v4).setCell ⟨w.heap.size, 5, none⟩ v5).setCell ⟨w.heap.size, 6, none⟩ v6).setCell ⟨w.heap.size, 7, none⟩ v7) :=
  ⟨_, rfl, ⟨a, b, rfl, ta, tb⟩, rdr_set8 hg R, kept_set8 (Nat.le_refl _) (by omega) K⟩
set_option maxRecDepth 100000 in
set_option maxHeartbeats 4000000 in
theorem ratio_any (g : Nat) (ao : Option Addr) (n cap : Nat) (cs : List Int) (w : World) (h : Rdr w g ao n cap cs) :
    Calls Try.prog 74 #[.pointer (some ⟨g, 0, none⟩)] w (RdP g ao n cap cs IsRt w) := by
  have hg := h.lt
  have hne : w.heap.size ≠ g := by omega
  have B := Blk.new w [.int .u64 0, .int .u64 0, .int .u64 0, .int .u64 0, .int .u64 0, .int .u64 0, .int .u64 0, .int .u64 0] 37 rfl
  have R := h.alloc (.cells #[.int .u64 0, .int .u64 0, .int .u64 0, .int .u64 0, .int .u64 0, .int .u64 0, .int .u64 0, .int .u64 0] 37)
  have K := (Kept.refl g w).alloc (.cells #[.int .u64 0, .int .u64 0, .int .u64 0, .int .u64 0, .int .u64 0, .int .u64 0, .int .u64 0, .int .u64 0] 37)
  have SO := fun n w h0 h1 => ofW_spec n w h0 h1
  clear h
  go_enter Try.func74, Try.ntmps74
  go_wp2_with fail
  refine (once_any 12 (by decide) (by decide) g ao n cap cs _ R).mono ?_
  rintro e w1 ⟨_, rfl, ⟨bb, rfl⟩, R1, K1⟩
  replace B := B.kept K1 hne
  replace K := K.trans K1
  clear R K1
  have R := R1
  clear R1
  cases bb
  · skip
    go_wp2_with fail
    refine (wide_any g ao n cap cs _ R).mono ?_
    rintro e w2 ⟨_, rfl, hv, R1, K1⟩
    replace B := B.kept K1 hne
    replace K := K.trans K1
    clear R K1
    have R := R1
    clear R1
    obtain ⟨x, rfl, tx⟩ := wideW4 hv
    clear hv
    go_wp2_with fail
    refine (wide_any g ao n cap cs _ R).mono ?_
    rintro e w3 ⟨_, rfl, hv, R1, K1⟩
    replace B := B.kept K1 hne
    replace K := K.trans K1
    clear R K1
    have R := R1
    clear R1
    obtain ⟨y, rfl, ty⟩ := wideW4 hv
    clear hv
    have RO := ofS_det x y tx ty
    obtain ⟨a, b, ff, hro, ta, tb, -⟩ := ratV_rz x y
    rw [hro] at RO
    clear hro tx ty
    go_wp2_with fail
    refine (RO _).mono ?_
    rintro e w4 ⟨rfl, hB⟩
    have hx4 := (B.step hB).lt
    replace R := (R.step hB).alloc (.cells #[.int .u64 (ww3 a), .int .u64 (ww2 a), .int .u64 (ww1 a), .int .u64 (ww0 a), .int .u64 (ww3 b), .int .u64 (ww2 b), .int .u64 (ww1 b), .int .u64 (ww0 b)] 37); replace B := (B.step hB).alloc (.cells #[.int .u64 (ww3 a), .int .u64 (ww2 a), .int .u64 (ww1 a), .int .u64 (ww0 a), .int .u64 (ww3 b), .int .u64 (ww2 b), .int .u64 (ww1 b), .int .u64 (ww0 b)] 37); replace K := (K.trans (Kept.of hB)).alloc (.cells #[.int .u64 (ww3 a), .int .u64 (ww2 a), .int .u64 (ww1 a), .int .u64 (ww0 a), .int .u64 (ww3 b), .int .u64 (ww2 b), .int .u64 (ww1 b), .int .u64 (ww0 b)] 37)
    have X := Blk.new w4 [.int .u64 (ww3 a), .int .u64 (ww2 a), .int .u64 (ww1 a), .int .u64 (ww0 a), .int .u64 (ww3 b), .int .u64 (ww2 b), .int .u64 (ww1 b), .int .u64 (ww0 b)] 37 rfl
    have hxl : g < w4.heap.size := by omega
    have hxm : w.heap.size ≤ w4.heap.size := by omega
    have hxg : w4.heap.size ≠ g := by omega
    have hxb : w.heap.size ≠ w4.heap.size := by omega
    clear hB RO
    cases ff
    · go_wp2_with fail
      generalize w4.alloc (.cells #[.int .u64 (ww3 a), .int .u64 (ww2 a), .int .u64 (ww1 a), .int .u64 (ww0 a), .int .u64 (ww3 b), .int .u64 (ww2 b), .int .u64 (ww1 b), .int .u64 (ww0 b)] 37) = W4' at *
      generalize w4.heap.size = gx at *
      go_wp2_with fail
      refine (near_m20 g ao n cap cs _ R).mono ?_
      rintro e p1 ⟨_, rfl, ⟨na, rfl, na0, na1⟩, R1, K1⟩
      replace B := B.kept K1 hne
      replace X := X.kept K1 hxg
      replace K := K.trans K1
      clear R K1
      have R := R1
      clear R1
      go_wp2_with fail
      refine (SO na _ (by omega) (by omega)).mono ?_
      rintro e q1 ⟨rfl, hB⟩
      replace R := R.step hB; replace B := B.step hB; replace X := X.step hB; replace K := K.trans (Kept.of hB)
      clear hB
      go_wp2_with fail
      refine (near_p11 g ao n cap cs _ R).mono ?_
      rintro e r1 ⟨_, rfl, ⟨nb, rfl, nb0, nb1⟩, R1, K1⟩
      replace B := B.kept K1 hne
      replace X := X.kept K1 hxg
      replace K := K.trans K1
      clear R K1
      have R := R1
      clear R1
      have hw1 : wrap64 (1 + nb) = 1 + nb := by unfold wrap64; omega
      go_wp2_with fail
      refine (SO (1 + nb) _ (by omega) (by omega)).mono ?_
      rintro e s1 ⟨rfl, hB⟩
      replace R := R.step hB; replace B := B.step hB; replace X := X.step hB; replace K := K.trans (Kept.of hB)
      clear hB hw1
      have RO := ofS_det na (1 + nb) (told_i (by omega) (by omega)) (told_i (by omega) (by omega))
      obtain ⟨c, d, f', hro, tc, td, -⟩ := ratV_rz na (1 + nb)
      rw [hro] at RO
      clear hro
      go_wp2_with fail
      refine (RO _).mono ?_
      rintro e t1 ⟨rfl, hB⟩
      replace R := R.step hB; replace B := B.step hB; replace X := X.step hB; replace K := K.trans (Kept.of hB)
      clear hB RO SO
      have oc0 := B.c 0 rfl; have of0 := B.f 0 rfl; have oc1 := B.c 1 rfl; have of1 := B.f 1 rfl; have oc2 := B.c 2 rfl; have of2 := B.f 2 rfl; have oc3 := B.c 3 rfl; have of3 := B.f 3 rfl; have oc4 := B.c 4 rfl; have of4 := B.f 4 rfl; have oc5 := B.c 5 rfl; have of5 := B.f 5 rfl; have oc6 := B.c 6 rfl; have of6 := B.f 6 rfl; have oc7 := B.c 7 rfl; have of7 := B.f 7 rfl; have ol := B.lt; have ac0 := X.c 0 rfl; have af0 := X.f 0 rfl; have ac1 := X.c 1 rfl; have af1 := X.f 1 rfl; have ac2 := X.c 2 rfl; have af2 := X.f 2 rfl; have ac3 := X.c 3 rfl; have af3 := X.f 3 rfl; have ac4 := X.c 4 rfl; have af4 := X.f 4 rfl; have ac5 := X.c 5 rfl; have af5 := X.f 5 rfl; have ac6 := X.c 6 rfl; have af6 := X.f 6 rfl; have ac7 := X.c 7 rfl; have af7 := X.f 7 rfl; have al := X.lt
      go_upto_region 6 with fail
      clear oc0 of0 ac0 af0 oc1 of1 ac1 af1 oc2 of2 ac2 af2 oc3 of3 ac3 af3 oc4 of4 ac4 af4 oc5 of5 ac5 af5 oc6 of6 ac6 af6 oc7 of7 ac7 af7 ol al
      replace X := X.stored8 (.int .u64 (ww3 c)) (.int .u64 (ww2 c)) (.int .u64 (ww1 c)) (.int .u64 (ww0 c)) (.int .u64 (ww3 d)) (.int .u64 (ww2 d)) (.int .u64 (ww1 d)) (.int .u64 (ww0 d))
      replace B := B.set8 (g := gx) (v0 := .int .u64 (ww3 c)) (v1 := .int .u64 (ww2 c)) (v2 := .int .u64 (ww1 c)) (v3 := .int .u64 (ww0 c)) (v4 := .int .u64 (ww3 d)) (v5 := .int .u64 (ww2 d)) (v6 := .int .u64 (ww1 d)) (v7 := .int .u64 (ww0 d)) (by omega)
      replace R := rdr_set8 (v0 := .int .u64 (ww3 c)) (v1 := .int .u64 (ww2 c)) (v2 := .int .u64 (ww1 c)) (v3 := .int .u64 (ww0 c)) (v4 := .int .u64 (ww3 d)) (v5 := .int .u64 (ww2 d)) (v6 := .int .u64 (ww1 d)) (v7 := .int .u64 (ww0 d)) hxl R
      replace K := kept_set8 (v0 := .int .u64 (ww3 c)) (v1 := .int .u64 (ww2 c)) (v2 := .int .u64 (ww1 c)) (v3 := .int .u64 (ww0 c)) (v4 := .int .u64 (ww3 d)) (v5 := .int .u64 (ww2 d)) (v6 := .int .u64 (ww1 d)) (v7 := .int .u64 (ww0 d)) hxm hxg K
      generalize ((((((((t1.setCell ⟨gx, 0, none⟩ (.int .u64 (ww3 c))).setCell ⟨gx, 1, none⟩ (.int .u64 (ww2 c))).setCell ⟨gx, 2, none⟩ (.int .u64 (ww1 c))).setCell ⟨gx, 3, none⟩ (.int .u64 (ww0 c))).setCell ⟨gx, 4, none⟩ (.int .u64 (ww3 d))).setCell ⟨gx, 5, none⟩ (.int .u64 (ww2 d))).setCell ⟨gx, 6, none⟩ (.int .u64 (ww1 d))).setCell ⟨gx, 7, none⟩ (.int .u64 (ww0 d))) = WS at *
      have oc0 := B.c 0 rfl; have of0 := B.f 0 rfl; have oc1 := B.c 1 rfl; have of1 := B.f 1 rfl; have oc2 := B.c 2 rfl; have of2 := B.f 2 rfl; have oc3 := B.c 3 rfl; have of3 := B.f 3 rfl; have oc4 := B.c 4 rfl; have of4 := B.f 4 rfl; have oc5 := B.c 5 rfl; have of5 := B.f 5 rfl; have oc6 := B.c 6 rfl; have of6 := B.f 6 rfl; have oc7 := B.c 7 rfl; have of7 := B.f 7 rfl; have ol := B.lt; have ac0 := X.c 0 rfl; have af0 := X.f 0 rfl; have ac1 := X.c 1 rfl; have af1 := X.f 1 rfl; have ac2 := X.c 2 rfl; have af2 := X.f 2 rfl; have ac3 := X.c 3 rfl; have af3 := X.f 3 rfl; have ac4 := X.c 4 rfl; have af4 := X.f 4 rfl; have ac5 := X.c 5 rfl; have af5 := X.f 5 rfl; have ac6 := X.c 6 rfl; have af6 := X.f 6 rfl; have ac7 := X.c 7 rfl; have af7 := X.f 7 rfl; have al := X.lt
      clear B X
      go_wp2
      refine bodyPost_ret (v := RZ c d) (by simp [results, Try.results74, go_sem, oc0, oc1, oc2, oc3, oc4, oc5, oc6, oc7]) rfl ?_
      exact rt_done hg R K tc td
    · go_wp2_with fail
      generalize w4.alloc (.cells #[.int .u64 (ww3 a), .int .u64 (ww2 a), .int .u64 (ww1 a), .int .u64 (ww0 a), .int .u64 (ww3 b), .int .u64 (ww2 b), .int .u64 (ww1 b), .int .u64 (ww0 b)] 37) = W4' at *
      generalize w4.heap.size = gx at *
      refine (once_any 2 (by decide) (by decide) g ao n cap cs _ R).mono ?_
      rintro e w5 ⟨_, rfl, ⟨bb, rfl⟩, R1, K1⟩
      replace B := B.kept K1 hne
      replace X := X.kept K1 hxg
      replace K := K.trans K1
      clear R K1
      have R := R1
      clear R1
      cases bb
      · clear SO
        have oc0 := B.c 0 rfl; have of0 := B.f 0 rfl; have oc1 := B.c 1 rfl; have of1 := B.f 1 rfl; have oc2 := B.c 2 rfl; have of2 := B.f 2 rfl; have oc3 := B.c 3 rfl; have of3 := B.f 3 rfl; have oc4 := B.c 4 rfl; have of4 := B.f 4 rfl; have oc5 := B.c 5 rfl; have of5 := B.f 5 rfl; have oc6 := B.c 6 rfl; have of6 := B.f 6 rfl; have oc7 := B.c 7 rfl; have of7 := B.f 7 rfl; have ol := B.lt; have ac0 := X.c 0 rfl; have af0 := X.f 0 rfl; have ac1 := X.c 1 rfl; have af1 := X.f 1 rfl; have ac2 := X.c 2 rfl; have af2 := X.f 2 rfl; have ac3 := X.c 3 rfl; have af3 := X.f 3 rfl; have ac4 := X.c 4 rfl; have af4 := X.f 4 rfl; have ac5 := X.c 5 rfl; have af5 := X.f 5 rfl; have ac6 := X.c 6 rfl; have af6 := X.f 6 rfl; have ac7 := X.c 7 rfl; have af7 := X.f 7 rfl; have al := X.lt
        clear B X
        go_wp2
        refine bodyPost_ret (v := RZ a b) (by simp [results, Try.results74, go_sem, oc0, oc1, oc2, oc3, oc4, oc5, oc6, oc7]) rfl ?_
        exact rt_done hg (by first | exact R | exact R.drew) (by first | exact K | exact K.drew) ta tb
      · skip
        go_wp2_with fail
        refine (near_m20 g ao n cap cs _ R).mono ?_
        rintro e p2 ⟨_, rfl, ⟨na, rfl, na0, na1⟩, R1, K1⟩
        replace B := B.kept K1 hne
        replace X := X.kept K1 hxg
        replace K := K.trans K1
        clear R K1
        have R := R1
        clear R1
        go_wp2_with fail
        refine (SO na _ (by omega) (by omega)).mono ?_
        rintro e q2 ⟨rfl, hB⟩
        replace R := R.step hB; replace B := B.step hB; replace X := X.step hB; replace K := K.trans (Kept.of hB)
        clear hB
        go_wp2_with fail
        refine (near_p11 g ao n cap cs _ R).mono ?_
        rintro e r2 ⟨_, rfl, ⟨nb, rfl, nb0, nb1⟩, R1, K1⟩
        replace B := B.kept K1 hne
        replace X := X.kept K1 hxg
        replace K := K.trans K1
        clear R K1
        have R := R1
        clear R1
        have hw1 : wrap64 (1 + nb) = 1 + nb := by unfold wrap64; omega
        go_wp2_with fail
        refine (SO (1 + nb) _ (by omega) (by omega)).mono ?_
        rintro e s2 ⟨rfl, hB⟩
        replace R := R.step hB; replace B := B.step hB; replace X := X.step hB; replace K := K.trans (Kept.of hB)
        clear hB hw1
        have RO := ofS_det na (1 + nb) (told_i (by omega) (by omega)) (told_i (by omega) (by omega))
        obtain ⟨c, d, f', hro, tc, td, -⟩ := ratV_rz na (1 + nb)
        rw [hro] at RO
        clear hro
        go_wp2_with fail
        refine (RO _).mono ?_
        rintro e t2 ⟨rfl, hB⟩
        replace R := R.step hB; replace B := B.step hB; replace X := X.step hB; replace K := K.trans (Kept.of hB)
        clear hB RO SO
        have oc0 := B.c 0 rfl; have of0 := B.f 0 rfl; have oc1 := B.c 1 rfl; have of1 := B.f 1 rfl; have oc2 := B.c 2 rfl; have of2 := B.f 2 rfl; have oc3 := B.c 3 rfl; have of3 := B.f 3 rfl; have oc4 := B.c 4 rfl; have of4 := B.f 4 rfl; have oc5 := B.c 5 rfl; have of5 := B.f 5 rfl; have oc6 := B.c 6 rfl; have of6 := B.f 6 rfl; have oc7 := B.c 7 rfl; have of7 := B.f 7 rfl; have ol := B.lt; have ac0 := X.c 0 rfl; have af0 := X.f 0 rfl; have ac1 := X.c 1 rfl; have af1 := X.f 1 rfl; have ac2 := X.c 2 rfl; have af2 := X.f 2 rfl; have ac3 := X.c 3 rfl; have af3 := X.f 3 rfl; have ac4 := X.c 4 rfl; have af4 := X.f 4 rfl; have ac5 := X.c 5 rfl; have af5 := X.f 5 rfl; have ac6 := X.c 6 rfl; have af6 := X.f 6 rfl; have ac7 := X.c 7 rfl; have af7 := X.f 7 rfl; have al := X.lt
        go_upto_region 6 with fail
        clear oc0 of0 ac0 af0 oc1 of1 ac1 af1 oc2 of2 ac2 af2 oc3 of3 ac3 af3 oc4 of4 ac4 af4 oc5 of5 ac5 af5 oc6 of6 ac6 af6 oc7 of7 ac7 af7 ol al
        replace X := X.stored8 (.int .u64 (ww3 c)) (.int .u64 (ww2 c)) (.int .u64 (ww1 c)) (.int .u64 (ww0 c)) (.int .u64 (ww3 d)) (.int .u64 (ww2 d)) (.int .u64 (ww1 d)) (.int .u64 (ww0 d))
        replace B := B.set8 (g := gx) (v0 := .int .u64 (ww3 c)) (v1 := .int .u64 (ww2 c)) (v2 := .int .u64 (ww1 c)) (v3 := .int .u64 (ww0 c)) (v4 := .int .u64 (ww3 d)) (v5 := .int .u64 (ww2 d)) (v6 := .int .u64 (ww1 d)) (v7 := .int .u64 (ww0 d)) (by omega)
        replace R := rdr_set8 (v0 := .int .u64 (ww3 c)) (v1 := .int .u64 (ww2 c)) (v2 := .int .u64 (ww1 c)) (v3 := .int .u64 (ww0 c)) (v4 := .int .u64 (ww3 d)) (v5 := .int .u64 (ww2 d)) (v6 := .int .u64 (ww1 d)) (v7 := .int .u64 (ww0 d)) hxl R
        replace K := kept_set8 (v0 := .int .u64 (ww3 c)) (v1 := .int .u64 (ww2 c)) (v2 := .int .u64 (ww1 c)) (v3 := .int .u64 (ww0 c)) (v4 := .int .u64 (ww3 d)) (v5 := .int .u64 (ww2 d)) (v6 := .int .u64 (ww1 d)) (v7 := .int .u64 (ww0 d)) hxm hxg K
        generalize ((((((((t2.setCell ⟨gx, 0, none⟩ (.int .u64 (ww3 c))).setCell ⟨gx, 1, none⟩ (.int .u64 (ww2 c))).setCell ⟨gx, 2, none⟩ (.int .u64 (ww1 c))).setCell ⟨gx, 3, none⟩ (.int .u64 (ww0 c))).setCell ⟨gx, 4, none⟩ (.int .u64 (ww3 d))).setCell ⟨gx, 5, none⟩ (.int .u64 (ww2 d))).setCell ⟨gx, 6, none⟩ (.int .u64 (ww1 d))).setCell ⟨gx, 7, none⟩ (.int .u64 (ww0 d))) = WS at *
        have oc0 := B.c 0 rfl; have of0 := B.f 0 rfl; have oc1 := B.c 1 rfl; have of1 := B.f 1 rfl; have oc2 := B.c 2 rfl; have of2 := B.f 2 rfl; have oc3 := B.c 3 rfl; have of3 := B.f 3 rfl; have oc4 := B.c 4 rfl; have of4 := B.f 4 rfl; have oc5 := B.c 5 rfl; have of5 := B.f 5 rfl; have oc6 := B.c 6 rfl; have of6 := B.f 6 rfl; have oc7 := B.c 7 rfl; have of7 := B.f 7 rfl; have ol := B.lt; have ac0 := X.c 0 rfl; have af0 := X.f 0 rfl; have ac1 := X.c 1 rfl; have af1 := X.f 1 rfl; have ac2 := X.c 2 rfl; have af2 := X.f 2 rfl; have ac3 := X.c 3 rfl; have af3 := X.f 3 rfl; have ac4 := X.c 4 rfl; have af4 := X.f 4 rfl; have ac5 := X.c 5 rfl; have af5 := X.f 5 rfl; have ac6 := X.c 6 rfl; have af6 := X.f 6 rfl; have ac7 := X.c 7 rfl; have af7 := X.f 7 rfl; have al := X.lt
        clear B X
        go_wp2
        refine bodyPost_ret (v := RZ c d) (by simp [results, Try.results74, go_sem, oc0, oc1, oc2, oc3, oc4, oc5, oc6, oc7]) rfl ?_
        exact rt_done hg R K tc td
  · clear SO
    go_wp2_with fail
    refine (wide_any g ao n cap cs _ R).mono ?_
    rintro e w2 ⟨_, rfl, hv, R1, K1⟩
    replace B := B.kept K1 hne
    replace K := K.trans K1
    clear R K1
    have R := R1
    clear R1
    obtain ⟨x, rfl, tx⟩ := wideW4 hv
    clear hv
    go_wp2_with fail
    refine (wide_any g ao n cap cs _ R).mono ?_
    rintro e w3 ⟨_, rfl, hv, R1, K1⟩
    replace B := B.kept K1 hne
    replace K := K.trans K1
    clear R K1
    have R := R1
    clear R1
    obtain ⟨y, rfl, ty⟩ := wideW4 hv
    clear hv
    have oc0 := B.c 0 rfl; have of0 := B.f 0 rfl; have oc1 := B.c 1 rfl; have of1 := B.f 1 rfl; have oc2 := B.c 2 rfl; have of2 := B.f 2 rfl; have oc3 := B.c 3 rfl; have of3 := B.f 3 rfl; have oc4 := B.c 4 rfl; have of4 := B.f 4 rfl; have oc5 := B.c 5 rfl; have of5 := B.f 5 rfl; have oc6 := B.c 6 rfl; have of6 := B.f 6 rfl; have oc7 := B.c 7 rfl; have of7 := B.f 7 rfl; have ol := B.lt
    clear B
    go_wp2
    refine bodyPost_ret (v := RZ x y) (by simp [results, Try.results74, go_sem, oc0, oc1, oc2, oc3, oc4, oc5, oc6, oc7]) rfl ?_
    exact rt_done hg (by first | exact R | exact R.drew) (by first | exact K | exact K.drew) tx ty
end Go.Proofs.Ytnnojeggjnddpaa

/- Numbers in decimal: the digits of a number, the number of digits; the reckoning, of no program. -/
namespace Go.Proofs.Ytnnojeggjnddpaa
/-- A text of these bytes. -/
def strL (l : List Nat) : ByteArray := strOfNums (l.map fun (n : Nat) => (n : Int))
/-- The bytes of a text. -/
def btL (s : ByteArray) : List Nat := s.data.toList.map UInt8.toNat
theorem btL_len (s : ByteArray) : (btL s).length = s.size := by
  unfold btL
  rw [List.length_map]
  rfl
theorem strL_size (l : List Nat) : (strL l).size = l.length := by simp [strL, strOfNums_size]
theorem strL_btL (s : ByteArray) : strL (btL s) = s := by
  obtain ⟨⟨l⟩⟩ := s
  simp only [strL, btL, strOfNums, List.map_map]
  congr 2
  conv => rhs; rw [← List.map_id l]
  exact List.map_congr_left fun x _ => by simp
theorem btL_strL {l : List Nat} (h : ∀ b ∈ l, b < 256) : btL (strL l) = l := by
  unfold btL strL
  rw [strOfNums_data, List.map_map, List.map_map]
  conv => rhs; rw [← List.map_id l]
  exact List.map_congr_left fun x hx => by
    have := h x hx
    simp
    omega
theorem btL_lt (s : ByteArray) : ∀ b ∈ btL s, b < 256 := by
  intro b hb
  obtain ⟨x, _, rfl⟩ := List.mem_map.1 hb
  exact x.toNat_lt
theorem strL_append (a b : List Nat) : strL (a ++ b) = strL a ++ strL b := by
  apply ByteArray.ext
  simp [strL, strOfNums]
theorem snocRec {P : List Nat → Prop} (h0 : P []) (h1 : ∀ l b, P l → P (l ++ [b])) (l : List Nat) : P l := by
  rw [← List.reverse_reverse l]
  induction l.reverse with
  | nil => exact h0
  | cons a t ih => rw [List.reverse_cons]; exact h1 _ _ ih
theorem head_app {a b : List Nat} (h : a ≠ []) : (a ++ b).head? = a.head? := by
  cases a with
  | nil => exact absurd rfl h
  | cons x t => rfl
/-- The digits of a number; 0 has none. -/
def dg (n : Nat) : List Nat := if n = 0 then [] else dg (n / 10) ++ [48 + n % 10]
termination_by n
decreasing_by omega
theorem dg_zero : dg 0 = [] := by rw [dg]; rfl
theorem dg_step {n : Nat} (h : 0 < n) : dg n = dg (n / 10) ++ [48 + n % 10] := by rw [dg, if_neg (by omega)]
theorem dg_ne {n : Nat} (h : 0 < n) : dg n ≠ [] := by rw [dg_step h]; simp
theorem dg_len (k : Nat) : ∀ n : Nat, n < 10 ^ k → (dg n).length ≤ k := by
  induction k with
  | zero => intro n h; obtain rfl : n = 0 := by simpa using h
            simp [dg_zero]
  | succ k ih =>
    intro n h
    rcases Nat.eq_zero_or_pos n with rfl | hp
    · simp [dg_zero]
    · rw [dg_step hp]
      have := ih (n / 10) (by rw [Nat.pow_succ] at h; omega)
      simp
      omega
/-- The digits of a number as they are written. -/
def dgs (n : Nat) : List Nat := dg (n / 10) ++ [48 + n % 10]
theorem dgs_pos {n : Nat} (h : 0 < n) : dgs n = dg n := by rw [dg_step h]; rfl
theorem dgs_zero : dgs 0 = [48] := by unfold dgs; rw [show 0 / 10 = 0 from rfl, dg_zero]; rfl
theorem dgs_len {k n : Nat} (hk : 0 < k) (h : n < 10 ^ k) : (dgs n).length ≤ k := by
  rcases Nat.eq_zero_or_pos n with rfl | hp
  · rw [dgs_zero]; exact hk
  · rw [dgs_pos hp]; exact dg_len k n h
/-- A number's text. -/
def txL (z : Int) : List Nat := (if z < 0 then [45] else []) ++ dgs z.natAbs
def txS (z : Int) : ByteArray := strL (txL z)
/-- A byte that is a digit. -/
def isD (b : Nat) : Prop := 48 ≤ b ∧ b ≤ 57
theorem dg_isD (n : Nat) : ∀ b ∈ dg n, isD b := by
  induction n using Nat.strongRecOn with
  | ind n ih =>
    rcases Nat.eq_zero_or_pos n with rfl | hp
    · simp [dg_zero]
    · rw [dg_step hp]
      intro b hb
      rcases List.mem_append.1 hb with h | h
      · exact ih (n / 10) (by omega) b h
      · rw [List.mem_singleton] at h; subst h; constructor <;> omega
theorem dgs_isD (n : Nat) : ∀ b ∈ dgs n, isD b := by
  intro b hb
  rcases List.mem_append.1 hb with h | h
  · exact dg_isD _ b h
  · rw [List.mem_singleton] at h; subst h; constructor <;> omega
theorem txL_lt (z : Int) : ∀ b ∈ txL z, b < 256 := by
  intro b hb
  rcases List.mem_append.1 hb with h | h
  · split at h
    · simp at h; omega
    · simp at h
  · have := dgs_isD _ b h; unfold isD at this; omega
/-- The number of these digits. -/
def rdN (l : List Nat) : Nat := l.foldl (fun n b => 10 * n + (b - 48)) 0
theorem rdN_nil : rdN [] = 0 := rfl
theorem rdN_snoc (l : List Nat) (b : Nat) : rdN (l ++ [b]) = 10 * rdN l + (b - 48) := by simp [rdN]
theorem rdN_take (l : List Nat) (k : Nat) (h : k < l.length) : rdN (l.take (k + 1)) = 10 * rdN (l.take k) + (l[k] - 48) := by
  rw [List.take_succ_eq_append_getElem h, rdN_snoc]
theorem rdN_lt (l : List Nat) (h : ∀ b ∈ l, isD b) : rdN l < 10 ^ l.length := by
  induction l using snocRec with
  | h0 => simp [rdN]
  | h1 l b ih =>
    rw [rdN_snoc]
    have h1 := ih fun x hx => h x (List.mem_append_left _ hx)
    have h2 := h b (by simp)
    unfold isD at h2
    simp [Nat.pow_succ]
    omega
theorem rdN_dg (n : Nat) : rdN (dg n) = n := by
  induction n using Nat.strongRecOn with
  | ind n ih =>
    rcases Nat.eq_zero_or_pos n with rfl | hp
    · simp [dg_zero, rdN]
    · rw [dg_step hp, rdN_snoc, ih (n / 10) (by omega)]
      omega
theorem rdN_dgs (n : Nat) : rdN (dgs n) = n := by unfold dgs; rw [rdN_snoc, rdN_dg]; omega
theorem dg_head (n : Nat) : (dg n).head? ≠ some 48 := by
  induction n using Nat.strongRecOn with
  | ind n ih =>
    rcases Nat.eq_zero_or_pos n with rfl | hp
    · simp [dg_zero]
    · rw [dg_step hp]
      by_cases h : n / 10 = 0
      · rw [h, dg_zero]; simp; omega
      · have := ih (n / 10) (by omega)
        have h2 := dg_ne (n := n / 10) (by omega)
        rw [head_app h2]
        exact this
theorem dg_rdN (l : List Nat) (h : ∀ b ∈ l, isD b) (h0 : l.head? ≠ some 48) : dg (rdN l) = l := by
  induction l using snocRec with
  | h0 => simp [rdN, dg_zero]
  | h1 l b ih =>
    have hb := h b (by simp)
    unfold isD at hb
    rw [rdN_snoc]
    rcases List.eq_nil_or_concat l with rfl | ⟨l', c, hl⟩
    · have h1 : b ≠ 48 := by simpa using h0
      rw [rdN_nil, dg_step (by omega), show (10 * 0 + (b - 48)) / 10 = 0 by omega, dg_zero]
      simp
      omega
    · have hne : l ≠ [] := by rw [hl]; simp
      have h1 : l.head? ≠ some 48 := by rw [head_app hne] at h0; exact h0
      have h2 := ih (fun x hx => h x (List.mem_append_left _ hx)) h1
      have h3 : 0 < rdN l := by
        rcases Nat.eq_zero_or_pos (rdN l) with h4 | h4
        · rw [h4, dg_zero] at h2; exact absurd h2.symm hne
        · exact h4
      rw [dg_step (by omega), show (10 * rdN l + (b - 48)) / 10 = rdN l by omega, h2, show 48 + (10 * rdN l + (b - 48)) % 10 = b by omega]
/-- That these bytes, with no sign, are a number in decimal. -/
def DecL (l : List Nat) : Prop := l ≠ [] ∧ (l.head? = some 48 → l = [48]) ∧ ∀ b ∈ l, isD b
theorem dgs_dec (n : Nat) : DecL (dgs n) := by
  refine ⟨by unfold dgs; simp, ?_, dgs_isD n⟩
  rcases Nat.eq_zero_or_pos n with rfl | hp
  · intro _; exact dgs_zero
  · intro h; rw [dgs_pos hp] at h; exact absurd h (dg_head n)
theorem dgs_rdN {l : List Nat} (h : DecL l) : dgs (rdN l) = l := by
  obtain ⟨h1, h2, h3⟩ := h
  by_cases h0 : l.head? = some 48
  · rw [h2 h0]; exact dgs_zero
  · have h4 := dg_rdN l h3 h0
    rcases Nat.eq_zero_or_pos (rdN l) with h5 | h5
    · rw [h5, dg_zero] at h4; exact absurd h4.symm h1
    · rw [dgs_pos h5, h4]
end Go.Proofs.Ytnnojeggjnddpaa

/- A tenth of a number of four words, and the rest. -/
namespace Go.Proofs.Ytnnojeggjnddpaa
open Go.RowKit
/-- The words from a place on, divided by ten; the rest that is left. -/
structure TnI (xs zs : List Int) (k : Nat) (r : Int) : Prop where
  len : zs.length = 4
  xlen : xs.length = 4
  same : ∀ j, j < k → zs[j]? = xs[j]?
  wds : Words zs
  r0 : 0 ≤ r
  r1 : r < 10
  eq : val64 (xs.drop k) = 10 * val64 (zs.drop k) + r
theorem tn_start {xs : List Int} (hl : xs.length = 4) (hx : Words xs) : TnI xs xs 4 0 :=
  ⟨hl, hl, fun _ _ => rfl, hx, by omega, by omega, by rw [← hl, List.drop_length]; rfl⟩
theorem tn_step {xs zs : List Int} {k : Nat} {r : Int} (h : TnI xs zs (k + 1) r) (hz : k < zs.length) (hk : k < xs.length) (he : zs[k] = xs[k]) (q s : Int) (hq : q = (r * 18446744073709551616 + zs[k]) / 10) (hs : s = (r * 18446744073709551616 + zs[k]) % 10) :
    TnI xs (zs.set k q) k s := by
  obtain ⟨h1, h2, h3, h4, h5, h6, h7⟩ := h
  have hw : Word zs[k] := h4 _ (List.getElem_mem hz)
  unfold Word at hw
  refine ⟨by simpa using h1, h2, fun j hj => ?_, words_set h4 k ⟨by omega, by omega⟩, by omega, by omega, ?_⟩
  · rw [List.getElem?_set_ne (by omega)]; exact h3 j (by omega)
  · rw [List.drop_eq_getElem_cons (show k < xs.length by omega), List.drop_eq_getElem_cons (show k < (zs.set k q).length by simpa using hz), List.getElem_set_self, List.drop_set_of_lt (by omega)]
    simp only [val64]
    rw [h7, ← he]
    omega
theorem tn_at {xs zs : List Int} {k : Nat} {r : Int} (h : TnI xs zs (k + 1) r) (hz : k < zs.length) (hk : k < xs.length) : zs[k] = xs[k] := by
  have := h.same k (by omega)
  rw [List.getElem?_eq_getElem hz, List.getElem?_eq_getElem hk] at this
  simpa using this
def TenP (v : Int) (w : World) (e : Ending) (w' : World) : Prop := ∃ zs : List Int, e = .returned (.tuple #[agg zs, .int .u64 (v % 10)]) ∧ zs.length = 4 ∧ Words zs ∧ val64 zs = v / 10 ∧ Below w.heap.size w w'
set_option maxRecDepth 100000 in
set_option maxHeartbeats 1000000 in
theorem tenthOf_any (xs : List Int) (hl : xs.length = 4) (hx : Words xs) (w : World) : Calls Try.prog 44 #[agg xs] w (TenP (val64 xs) w) := by
  have HI : Hid (TnI xs xs 4 0) := tn_start hl hx
  have HX : Hid (Words xs) := hx
  obtain ⟨x0, x1, x2, x3, hxs⟩ := list4 hl
  have HA : agg xs = .agg #[.int .u64 x0, .int .u64 x1, .int .u64 x2, .int .u64 x3] := by rw [hxs]; rfl
  rw [HA]
  have HL : Hid (xs.length = 4) := hl
  clear hl hx HA
  go_enter Try.func44, Try.ntmps44
  go_wp2
  have HS : Mk w ((w.alloc (.cells #[.int .u64 x0, .int .u64 x1, .int .u64 x2, .int .u64 x3] 70)).alloc (.cells #[.int .u64 0, .int .u64 0, .int .u64 0, .int .u64 0] 70)) (w.heap.size + 1) w.heap.size (List.replicate 4 (.int .u64 0)) xs :=
    ⟨((Below.refl _ _).alloc (Nat.le_refl _) _).alloc (by simp) _, Blk.new _ [.int .u64 0, .int .u64 0, .int .u64 0, .int .u64 0] _ (by simp), by rw [hxs]; exact (Blk.new w [.int .u64 x0, .int .u64 x1, .int .u64 x2, .int .u64 x3] _ rfl).alloc _⟩
  generalize ((w.alloc (.cells #[.int .u64 x0, .int .u64 x1, .int .u64 x2, .int .u64 x3] 70)).alloc (.cells #[.int .u64 0, .int .u64 0, .int .u64 0, .int .u64 0] 70)) = W at *
  clear hxs
  go_loopw [4, 5] (fun r i wr => ∃ (k : Nat) (zs : List Int) (s : Int), k ≤ 4 ∧ i = .int .i64 ((k : Int) - 1) ∧ r = .int .u64 s ∧ TnI xs zs k s ∧ Mk w wr (w.heap.size + 1) w.heap.size (List.replicate 4 (.int .u64 0)) zs) (fun _ i _ => (intOf i + 1).toNat)
  case atStart => exact ⟨4, _, 0, by omega, rfl, rfl, HI.out, HS⟩
  case round =>
    clear HI HS
    obtain ⟨k, zs, s, hk, rfl, rfl, hI, hM⟩ := hrel
    have hlen := hI.len
    by_cases hk0 : 0 < k
    · obtain ⟨m, rfl⟩ : ∃ m, k = m + 1 := ⟨k - 1, by omega⟩
      have hz : m < zs.length := by omega
      have hxm : m < xs.length := by have := HL.out; omega
      have he : Hid (zs[m] = xs[m]) := tn_at hI hz hxm
      obtain ⟨q1, q2⟩ := hM.cp m hz
      have hw : Word zs[m] := hI.wds _ (List.getElem_mem hz)
      have e1 : ((m + 1 : Nat) : Int) - 1 = m := by omega
      have hr0 := hI.r0
      have hr1 := hI.r1
      have HII : Hid (TnI xs zs (m + 1) s) := hI
      have HM : Hid (Mk w wr (w.heap.size + 1) w.heap.size (List.replicate 4 (.int .u64 0)) zs) := hM
      have hmI : (m : Int) < 4 := by omega
      have C := div64_any s zs[m] 10 ⟨by omega, by omega⟩ hw ⟨by omega, by omega⟩ (by omega)
      rw [e1]
      clear hI hM e1
      go_wp2_with fail
      refine (C _).mono ?_
      rintro e w1 ⟨rfl, hB⟩
      have M1 := HM.out.step hB
      obtain ⟨p1, p2⟩ := M1.cp m hz
      have R1 := tn_step HII.out hz hxm he.out _ _ rfl rfl
      have M2 : Hid (Mk w (w1.setCell ⟨w.heap.size, m, none⟩ (.int .u64 ((s * 18446744073709551616 + zs[m]) / 10))) (w.heap.size + 1) w.heap.size (List.replicate 4 (.int .u64 0)) (zs.set m ((s * 18446744073709551616 + zs[m]) / 10))) := M1.set (by omega) (Nat.le_refl _) m hz _
      clear q1 q2 C hB M1
      go_wp2
      go_roundw
      case rel => exact ⟨m, _, _, by omega, by go_num, rfl, R1, M2.out⟩
      case measure => simp [intOf]
    · obtain rfl : k = 0 := by omega
      have HV := hI.eq
      have HR0 := hI.r0
      have HR1 := hI.r1
      have HW := hI.wds
      obtain ⟨z0, z1, z2, z3, rfl⟩ := list4 hlen
      obtain ⟨c0, f0⟩ := hM.cp 0 (by simp)
      obtain ⟨c1, f1⟩ := hM.cp 1 (by simp)
      obtain ⟨c2, f2⟩ := hM.cp 2 (by simp)
      obtain ⟨c3, f3⟩ := hM.cp 3 (by simp)
      have d0 := hM.r.c 0 rfl; have e0 := hM.r.f 0 rfl
      have d1 := hM.r.c 1 rfl; have e1 := hM.r.f 1 rfl
      have d2 := hM.r.c 2 rfl; have e2 := hM.r.f 2 rfl
      have d3 := hM.r.c 3 rfl; have e3 := hM.r.f 3 rfl
      have HB := hM.below
      simp only [List.getElem_cons_zero, List.getElem_cons_succ] at c0 c1 c2 c3
      have HV2 : Hid (s = val64 xs % 10 ∧ val64 [z0, z1, z2, z3] = val64 xs / 10) := by
        simp only [List.drop_zero] at HV
        exact ⟨by omega, by omega⟩
      clear hI hM hlen HV HR0 HR1
      go_wp2
      refine bodyPost_ret (v := .tuple #[.agg #[.int .u64 z0, .int .u64 z1, .int .u64 z2, .int .u64 z3], .int .u64 s]) (by simp [results, Try.results44, go_sem, d0, d1, d2, d3]) rfl ?_
      refine ⟨[z0, z1, z2, z3], by rw [← HV2.out.1]; rfl, rfl, HW, HV2.out.2, ?_⟩
      repeat' (refine Below.setCell ?_ (by simp) _)
      exact HB
end Go.Proofs.Ytnnojeggjnddpaa

/- The program's text of a number. -/
namespace Go.Proofs.Ytnnojeggjnddpaa
open Go.RowKit
set_option maxRecDepth 100000 in
set_option maxHeartbeats 2000000 in
theorem eqWordsZ (x0 x1 x2 x3 : Int) (w : World) : (Op.equalIn 10000 70 (.agg #[.int .u64 x0, .int .u64 x1, .int .u64 x2, .int .u64 x3]) (.agg #[.int .u64 0, .int .u64 0, .int .u64 0, .int .u64 0])).run Try.prog w = .ok (x0 == 0 && x1 == 0 && x2 == 0 && x3 == 0) w := by
  have u3 := Try.underlying22
  have a3 := Try.isAgg22
  have z3 := Try.sizeOf22
  rw [show (10000 : Nat) = 9999 + 1 from rfl, Op.equalIn]
  simp only [Sem.run_bind, run_underlying Try.underlying70, Result.andThen_ok]
  simp only [Std.Legacy.Range.forIn_eq_forIn_range', Std.Legacy.Range.size, Nat.sub_zero, Nat.add_sub_cancel, Nat.div_one, List.range'_succ, List.range'_zero, List.forIn_cons, List.forIn_nil]
  go_simp
  by_cases h0 : x0 = 0
  · subst h0
    by_cases h1 : x1 = 0
    · subst h1
      by_cases h2 : x2 = 0
      · subst h2
        by_cases h3 : x3 = 0
        · subst h3
          simp
        · simp [h3]
      · simp [h2]
    · simp [h1]
  · simp [h0]
theorem zeroW4 {x0 x1 x2 x3 : Int} (h : Words [x0, x1, x2, x3]) : (x0 == 0 && x1 == 0 && x2 == 0 && x3 == 0) = decide (val64 [x0, x1, x2, x3] = 0) := by
  obtain ⟨h0, h1, h2, h3⟩ := words4_of h
  unfold Word at *
  rw [Bool.eq_iff_iff, decide_eq_true_iff]
  simp only [Bool.and_eq_true, beq_iff_eq, val64]
  omega
/-- Bytes as they lie in a row. -/
def byV (l : List Nat) : List Value := l.map fun (n : Nat) => Value.int .u8 (n : Int)
theorem byV_set (k : Nat) (ts : List Nat) (b : Nat) : (byV (List.replicate (k + 1) 0 ++ ts)).set k (.int .u8 (b : Int)) = byV (List.replicate k 0 ++ b :: ts) := by
  unfold byV
  rw [show Value.int .u8 (b : Int) = (fun (n : Nat) => Value.int .u8 (n : Int)) b from rfl, ← List.map_set]
  congr 1
  rw [List.replicate_succ', List.append_assoc, List.set_append_right _ _ (by simp)]
  simp
theorem byV_len (l : List Nat) : (byV l).length = l.length := by simp [byV]
/-- What lies in memory while a text is written from its end on. -/
structure WtI (w wr : World) (g : Nat) (n : Nat) (a : List Value) (k : Nat) (zs : List Int) (d : Nat) (ts : List Nat) : Prop where
  below : Below w.heap.size w wr
  ba : Blk wr w.heap.size a
  bt : Blk wr (w.heap.size + 1) (byV (List.replicate k 0 ++ ts))
  bs : Blk wr g (zs.map (Value.int .u64))
  zl : zs.length = 4
  zw : Words zs
  gl : w.heap.size + 1 < g
  len : k + ts.length = 78
  d10 : d < 10
  eq : dgs n = dg (val64 zs).toNat ++ (48 + d) :: ts
theorem WtI.fit {w wr : World} {g n : Nat} {a : List Value} {k : Nat} {zs : List Int} {d : Nat} {ts : List Nat} (h : WtI w wr g n a k zs d ts) (hn : n < 10 ^ 77) : 2 ≤ k := by
  have h1 := dgs_len (k := 77) (by omega) hn
  rw [h.eq] at h1
  have := h.len
  simp at h1
  omega
theorem WtI.next {w wr w1 : World} {g n : Nat} {a : List Value} {k : Nat} {zs ys : List Int} {d e : Nat} {ts : List Nat} (h : WtI w wr g n a (k + 1) zs d ts) (hv : 0 < val64 zs) (hB : Below (wr.setCell ⟨w.heap.size + 1, k, none⟩ (.int .u8 (48 + (d : Int)))).heap.size (wr.setCell ⟨w.heap.size + 1, k, none⟩ (.int .u8 (48 + (d : Int)))) w1) {y0 y1 y2 y3 : Int} (hy : ys = [y0, y1, y2, y3]) (yw : Words ys) (yv : val64 ys = val64 zs / 10) (he : (e : Int) = val64 zs % 10) :
    WtI w ((((w1.setCell ⟨g, 0, none⟩ (.int .u64 y0)).setCell ⟨g, 1, none⟩ (.int .u64 y1)).setCell ⟨g, 2, none⟩ (.int .u64 y2)).setCell ⟨g, 3, none⟩ (.int .u64 y3)) g n a k ys e ((48 + d) :: ts) := by
  have hgl := h.gl
  have hsz := h.below.size
  have hg : w.heap.size ≤ g := by omega
  have B1 := (h.below.setCell (p := ⟨w.heap.size + 1, k, none⟩) (by show w.heap.size ≤ w.heap.size + 1; omega) (.int .u8 (48 + (d : Int))))
  have B2 := B1.trans (hB.mono B1.size)
  have BA := (h.ba.setO (p := ⟨w.heap.size + 1, k, none⟩) (by show w.heap.size ≠ w.heap.size + 1; omega) (.int .u8 (48 + (d : Int)))).step hB
  have BT0 := h.bt.setI k (by rw [byV_len]; simp; omega) (.int .u8 (48 + (d : Int)))
  rw [show 48 + (d : Int) = ((48 + d : Nat) : Int) by omega, byV_set, ← show 48 + (d : Int) = ((48 + d : Nat) : Int) by omega] at BT0
  have BT := BT0.step hB
  have BS := (h.bs.setO (p := ⟨w.heap.size + 1, k, none⟩) (by show g ≠ w.heap.size + 1; omega) (.int .u8 (48 + (d : Int)))).step hB
  obtain ⟨z0, z1, z2, z3, hz⟩ := list4 h.zl
  rw [hz] at BS
  refine ⟨(((B2.setCell (p := ⟨g, 0, none⟩) hg _).setCell (p := ⟨g, 1, none⟩) hg _).setCell (p := ⟨g, 2, none⟩) hg _).setCell (p := ⟨g, 3, none⟩) hg _, BA.set4 (by omega), BT.set4 (by omega), ?_, by rw [hy]; rfl, yw, hgl, by have := h.len; simp; omega, by omega, ?_⟩
  · rw [hy]
    exact Blk.stored4g BS _ _ _ _
  · rw [h.eq, dg_step (n := (val64 zs).toNat) (by omega), yv]
    rw [show (val64 zs).toNat / 10 = (val64 zs / 10).toNat by omega, show (val64 zs).toNat % 10 = e by omega, List.append_assoc]
    rfl
theorem arr78 : Try.prog.arrayLen 68 = 78 := by kernel_rfl
theorem und78 : Try.prog.underlying 68 = some (.array (Try.prog.arrayLen 68) (Try.prog.elem 68)) := by kernel_rfl
theorem siz78 (w : World) : (sizeOf (Try.prog.elem 68)).run Try.prog w = .ok 1 w := by kernel_rfl
theorem slice78_l (g l : Nat) (hl : l < 78) (i : Int) (hi : i = l) (w : World) : (Instr.sliceAt 68 (.pointer (some ⟨g, 0, none⟩)) (some (.int .i64 i)) none none).run Try.prog w = .ok (.slice (some ⟨g, l, none⟩) (78 - l) (78 - l)) w := by
  subst hi
  rw [run_sliceAt_array_l w _ _ und78 _ _ (by omega) (by rw [arr78]; omega), siz78, arr78]
  simp only [Result.andThen, slicedAt, Addr.add, Int.toNat_natCast, Nat.mul_one, Nat.zero_add]
  rw [if_neg (by omega)]
  split
  · next h0 => rw [h0]
  · rfl
theorem text_out {W : World} {g k : Nat} {l : List Nat} (h : Blk W g (byV (List.replicate k 0 ++ l))) (hk : k + l.length = 78) : (convert 53 9 (.slice (some ⟨g, k, none⟩) (78 - k) (78 - k))).run Try.prog W = .ok (.string (strL l)) W :=
  run_convert_bytes_arg (P := Try.prog) W 53 5 Try.underlying53 Try.underlying5 g k (78 - k) (78 - k) (l.map fun (n : Nat) => (n : Int)) (by simp; omega) (fun i hi => by
    refine h.c (k + i) ?_
    have hi2 : i < l.length := by omega
    unfold byV
    rw [List.getElem?_map, List.getElem?_append_right (by simp), List.length_replicate, Nat.add_sub_cancel_left, List.getElem?_eq_getElem hi2]
    simp [List.getD_eq_getElem?_getD, hi2]) 9 Try.underlying9
theorem zero78 : Try.zeroCells68 = (byV (List.replicate 78 0 ++ [])).toArray := by kernel_rfl
set_option maxRecDepth 100000 in
set_option maxHeartbeats 2000000 in
theorem implText_any (a3 a2 a1 a0 : Int) (h3 : Word a3) (h2 : Word a2) (h1 : Word a1) (h0 : Word a0) (w : World) : Calls Try.prog 14 #[.agg #[.int .u64 a3, .int .u64 a2, .int .u64 a1, .int .u64 a0]] w (VP (.string (txS (sw a3 a2 a1 a0))) w) := by
  have CS := sizeOf_any a3 a2 a1 a0 h3 h2 h1 h0
  have hsb := sw_bound h3 h2 h1 h0
  have hsn := sw_neg h3 h2 h1 h0
  have h3H : Hid (Word a3) := h3
  have HB0 : Hid (Below w.heap.size w ((w.alloc (Obj.cells #[.int .u64 a3, .int .u64 a2, .int .u64 a1, .int .u64 a0] 26)).alloc (Obj.cells Try.zeroCells68 68))) := ((Below.refl _ _).alloc (Nat.le_refl _) _).alloc (by simp) _
  have BA0 : Hid (Blk ((w.alloc (Obj.cells #[.int .u64 a3, .int .u64 a2, .int .u64 a1, .int .u64 a0] 26)).alloc (Obj.cells Try.zeroCells68 68)) w.heap.size [.int .u64 a3, .int .u64 a2, .int .u64 a1, .int .u64 a0]) := (Blk.new w [.int .u64 a3, .int .u64 a2, .int .u64 a1, .int .u64 a0] _ rfl).alloc _
  have BT0 : Hid (Blk ((w.alloc (Obj.cells #[.int .u64 a3, .int .u64 a2, .int .u64 a1, .int .u64 a0] 26)).alloc (Obj.cells Try.zeroCells68 68)) (w.heap.size + 1) (byV (List.replicate 78 0 ++ []))) := by
    show Blk _ _ _
    rw [zero78]
    exact Blk.new _ _ _ (by simp)
  generalize hz : sw a3 a2 a1 a0 = z at *
  have HZ : Hid (sw a3 a2 a1 a0 = z) := hz
  clear hz h3 h2 h1 h0
  go_enter Try.func14, Try.ntmps14
  go_wp2_with fail
  generalize ((w.alloc (Obj.cells #[.int .u64 a3, .int .u64 a2, .int .u64 a1, .int .u64 a0] 26)).alloc (Obj.cells Try.zeroCells68 68)) = W0 at *
  refine (CS _).mono ?_
  rintro e w1 ⟨x3, x2, x1, x0, rfl, g3, g2, g1, g0, hu, hB⟩
  have BA1 := BA0.out.step hB
  have BT1 := BT0.out.step hB
  have HB1 := HB0.out.trans (hB.mono HB0.out.size)
  clear BA0 BT0 HB0 hB CS
  obtain ⟨n, hn⟩ : ∃ n, n = z.natAbs := ⟨_, rfl⟩
  have hn77 : Hid (n < 10 ^ 77) := by
    show _ < _
    omega
  rw [← hn] at hu
  have HN : Hid (n = z.natAbs) := hn
  clear hn
  have CT := tenthOf_any [x0, x1, x2, x3] rfl (words4 g0 g1 g2 g3)
  rw [val64_4, hu] at CT
  go_wp2_with fail
  refine (CT _).mono ?_
  rintro e w2 ⟨zs, rfl, zl, zw, zv, hB⟩
  have BA2 := BA1.step hB
  have BT2 := BT1.step hB
  have HB2 := HB1.trans (hB.mono HB1.size)
  clear BA1 BT1 HB1 hB CT
  have e1 : ((n : Int) % 10) = ((n % 10 : Nat) : Int) := by omega
  rw [e1]
  have HI0 : Hid (dgs n = dg (val64 zs).toNat ++ (48 + n % 10) :: []) := by
    show _ = _
    rw [zv, show ((n : Int) / 10).toNat = n / 10 by omega]; rfl
  have hd : n % 10 < 10 := by omega
  generalize n % 10 = d at *
  clear e1 hu zv
  obtain ⟨z0, z1, z2, z3, rfl⟩ := list4 zl
  simp only [agg, List.map_cons, List.map_nil]
  have HW2 := HB2.size
  have HI1 : Hid (WtI w (w2.alloc (Obj.cells #[.int .u64 z0, .int .u64 z1, .int .u64 z2, .int .u64 z3] 70)) w2.heap.size n [.int .u64 a3, .int .u64 a2, .int .u64 a1, .int .u64 a0] 78 [z0, z1, z2, z3] d []) :=
    ⟨HB2.alloc HW2 _, BA2.alloc _, BT2.alloc _, Blk.new _ [.int .u64 z0, .int .u64 z1, .int .u64 z2, .int .u64 z3] _ rfl, rfl, zw, BT2.lt, rfl, hd, HI0.out⟩
  clear BA2 BT2 HB2 HI0
  go_wp2
  generalize (w2.alloc (Obj.cells #[.int .u64 z0, .int .u64 z1, .int .u64 z2, .int .u64 z3] 70)) = W2 at *
  generalize w2.heap.size = g at *
  go_loopw [4, 6] (fun at' dv wr => ∃ (k : Nat) (zs : List Int) (e : Nat) (ts : List Nat), at' = .int .i64 k ∧ dv = .int .u64 e ∧ WtI w wr g n [.int .u64 a3, .int .u64 a2, .int .u64 a1, .int .u64 a0] k zs e ts) (fun at' _ _ => (intOf at').toNat)
  case atStart => exact ⟨78, _, d, [], rfl, rfl, HI1.out⟩
  case round =>
    clear HI1 hd zw zl
    obtain ⟨k, zs, e, ts, rfl, rfl, hI⟩ := hrel
    have hk2 := hI.fit hn77.out
    have zl := hI.zl
    have zw := hI.zw
    have hgl := hI.gl
    have hlen := hI.len
    have hd := hI.d10
    obtain ⟨y0, y1, y2, y3, hy⟩ := list4 zl
    have EZ := eqWordsZ y0 y1 y2 y3
    rw [zeroW4 (by rw [← hy]; exact zw), ← hy] at EZ
    have BS := hI.bs
    rw [hy] at BS
    obtain ⟨c0, f0, c1, f1, c2, f2, c3, f3⟩ := BS.cf4
    obtain ⟨j, rfl⟩ : ∃ j, k = j + 1 := ⟨k - 1, by omega⟩
    have bt1 := hI.bt.c j (v := .int .u8 0) (by unfold byV; rw [List.getElem?_map, List.getElem?_append_left (by simp), List.getElem?_replicate_of_lt (by omega)]; rfl)
    have bt2 := hI.bt.f j (v := .int .u8 0) (by unfold byV; rw [List.getElem?_map, List.getElem?_append_left (by simp), List.getElem?_replicate_of_lt (by omega)]; rfl)
    obtain ⟨q0, q1, q2, q3⟩ := hI.ba.cs4
    have HY : Hid (zs = [y0, y1, y2, y3]) := hy
    have HII : Hid (WtI w wr g n [.int .u64 a3, .int .u64 a2, .int .u64 a1, .int .u64 a0] (j + 1) zs e ts) := hI
    have hv0 := val64_nonneg zw
    clear hI hy
    have ej : ((j + 1 : Nat) : Int) - 1 = j := by omega
    have hj78 : (j : Int) < 78 := by omega
    have eb : IntKind.u8.wrap (48 + IntKind.u8.wrap (e : Int)) = ((48 + e : Nat) : Int) := by
      rw [IntKind.wrap_u8, IntKind.wrap_u8]
      omega
    by_cases hz : val64 zs = 0
    · rw [hz] at EZ
      simp only [decide_true] at EZ
      have hL : Hid (dgs n = (48 + e) :: ts) := by
        have := HII.out.eq
        rw [hz, show (0 : Int).toNat = 0 from rfl, dg_zero] at this
        exact this
      have BT1 : Hid (Blk (wr.setCell ⟨w.heap.size + 1, j, none⟩ (.int .u8 (48 + (e : Int)))) (w.heap.size + 1) (byV (List.replicate j 0 ++ (48 + e) :: ts))) := by
        have := HII.out.bt.setI j (by rw [byV_len]; simp; omega) (.int .u8 ((48 + e : Nat) : Int))
        rw [byV_set] at this
        rw [show 48 + (e : Int) = ((48 + e : Nat) : Int) by omega]
        exact this
      have HB1 : Hid (Below w.heap.size w (wr.setCell ⟨w.heap.size + 1, j, none⟩ (.int .u8 (48 + (e : Int))))) := HII.out.below.setCell (by show w.heap.size ≤ w.heap.size + 1; omega) _
      rw [← hL.out] at BT1
      have hdl : Hid (j + (dgs n).length = 78) := by show _ = _; rw [hL.out]; simp; omega
      clear HII hL
      by_cases hz0 : z < 0
      · have CB := isBelow_any a3 a2 a1 a0 h3H.out true (beq_iff_eq.2 (by have := h3H.out; unfold Word at this; omega))
        have hT : Hid (txS z = strL (45 :: dgs n)) := by show _ = _; unfold txS txL; rw [if_pos hz0, ← HN.out]; rfl
        clear hz0 hsn hsb
        go_wp2_with fail
        generalize (wr.setCell ⟨w.heap.size + 1, j, none⟩ (.int .u8 (48 + (e : Int)))) = W3 at *
        refine (CB _).mono ?_
        rintro e w4 ⟨rfl, hB⟩
        have BT2 := BT1.out.step hB
        have HB2 := HB1.out.trans (hB.mono HB1.out.size)
        clear CB BT1 HB1 hB q0 q1 q2 q3 c0 c1 c2 c3 f0 f1 f2 f3 bt1 bt2
        obtain ⟨i, rfl⟩ : ∃ i, j = i + 1 := ⟨j - 1, by omega⟩
        have bt1 := BT2.c i (v := .int .u8 0) (by unfold byV; rw [List.getElem?_map, List.getElem?_append_left (by simp), List.getElem?_replicate_of_lt (by omega)]; rfl)
        have bt2 := BT2.f i (v := .int .u8 0) (by unfold byV; rw [List.getElem?_map, List.getElem?_append_left (by simp), List.getElem?_replicate_of_lt (by omega)]; rfl)
        have ei : ((i + 1 : Nat) : Int) - 1 = i := by omega
        have hi78 : (i : Int) < 78 := by omega
        have BT3 : Blk (w4.setCell ⟨w.heap.size + 1, i, none⟩ (.int .u8 45)) (w.heap.size + 1) (byV (List.replicate i 0 ++ 45 :: dgs n)) := by
          have := BT2.setI i (by rw [byV_len]; simp; omega) (.int .u8 ((45 : Nat) : Int))
          rw [byV_set] at this
          exact this
        have CV := text_out BT3 (by have := hdl.out; simp; omega)
        have SL := slice78_l (w.heap.size + 1) i (by omega) i rfl
        have HB3 : Hid (Below w.heap.size w (w4.setCell ⟨w.heap.size + 1, i, none⟩ (.int .u8 45))) := HB2.setCell (by show w.heap.size ≤ w.heap.size + 1; omega) _
        clear BT2 BT3 HB2
        go_wp2
        go_ret
        exact ⟨by rw [hT.out]; rfl, HB3.out⟩
      · have CB := isBelow_any a3 a2 a1 a0 h3H.out false (beq_eq_false_iff_ne.2 (by have := h3H.out; unfold Word at this; omega))
        have hT : Hid (txS z = strL (dgs n)) := by show _ = _; unfold txS txL; rw [if_neg hz0, ← HN.out]; rfl
        clear hz0 hsn hsb
        go_wp2_with fail
        generalize (wr.setCell ⟨w.heap.size + 1, j, none⟩ (.int .u8 (48 + (e : Int)))) = W3 at *
        refine (CB _).mono ?_
        rintro e w4 ⟨rfl, hB⟩
        have BT2 := BT1.out.step hB
        have HB2 := HB1.out.trans (hB.mono HB1.out.size)
        clear CB BT1 HB1 hB q0 q1 q2 q3 c0 c1 c2 c3 f0 f1 f2 f3 bt1 bt2
        have CV := text_out BT2 hdl.out
        have SL := slice78_l (w.heap.size + 1) j (by omega) j rfl
        clear BT2
        go_wp2
        go_ret
        exact ⟨by rw [hT.out]; rfl, HB2⟩
    · simp only [hz, decide_false] at EZ
      have CT := tenthOf_any zs zl zw
      rw [HY.out] at CT
      rw [← HY.out] at CT
      have hv1 : 0 < val64 zs := by omega
      have ee : Hid (val64 zs % 10 = ((val64 zs % 10).toNat : Int)) := by show _ = _; omega
      have CT2 : ∀ w, Calls Try.prog 44 #[.agg #[.int .u64 y0, .int .u64 y1, .int .u64 y2, .int .u64 y3]] w (TenP (val64 zs) w) := by
        have := CT
        rw [show agg zs = .agg #[.int .u64 y0, .int .u64 y1, .int .u64 y2, .int .u64 y3] by rw [HY.out]; rfl] at this
        exact this
      clear CT
      go_wp2_with fail
      refine (CT2 _).mono ?_
      rintro e2 w4 ⟨xs, rfl, xl, xw, xv, hB⟩
      rw [ee.out]
      obtain ⟨m, hm⟩ : ∃ m, m = (val64 zs % 10).toNat := ⟨_, rfl⟩
      obtain ⟨s0, s1, s2, s3, hs⟩ := list4 xl
      have N1 := HII.out.next hv1 hB hs xw xv (by rw [← hm] at ee; exact ee.out.symm)
      have m1 := HII.out.bs.setO (p := ⟨w.heap.size + 1, j, none⟩) (by show g ≠ w.heap.size + 1; omega) (.int .u8 (48 + (e : Int)))
      have m2 := m1.step hB
      rw [HY.out] at m2
      obtain ⟨k0, l0, k1, l1, k2, l2, k3, l3⟩ := m2.cf4
      rw [← hm]
      have NN : Hid (WtI w ((((w4.setCell ⟨g, 0, none⟩ (.int .u64 s0)).setCell ⟨g, 1, none⟩ (.int .u64 s1)).setCell ⟨g, 2, none⟩ (.int .u64 s2)).setCell ⟨g, 3, none⟩ (.int .u64 s3)) g n [.int .u64 a3, .int .u64 a2, .int .u64 a1, .int .u64 a0] j xs m ((48 + e) :: ts)) := N1
      have SA : agg xs = .agg #[.int .u64 s0, .int .u64 s1, .int .u64 s2, .int .u64 s3] := by rw [hs]; rfl
      rw [SA]
      clear HII N1 hB m1 m2 hs SA EZ CT2 q0 q1 q2 q3 c0 c1 c2 c3 f0 f1 f2 f3 bt1 bt2 hm ee
      go_wp2
      go_roundw
      case rel => exact ⟨j, _, m, _, by go_num, rfl, NN.out⟩
      case measure => simp [intOf]
end Go.Proofs.Ytnnojeggjnddpaa

/- The model's text of a number. -/
namespace Go.Proofs.Ytnnojeggjnddpaa
open Go.RowKit
/-- The digits from a place on, divided by ten; the rest that is left. -/
structure TdJ (W wr : World) (g n : Nat) (xs zs : List Int) (k : Nat) (c : Int) : Prop where
  len : zs.length = n
  dig : Dig zs
  c0 : 0 ≤ c
  c1 : c < 10
  eq : val (xs.drop k) = 10 * val (zs.drop k) + c
  own : wr.ownsRow g 112 1 (.slice (some ⟨g, 0, none⟩) n n) n (zs.map (Value.int .u32))
  below : Below g W wr
theorem TdJ.start {W w1 : World} {g n : Nat} {xs : List Int} (hx : xs.length = n) (hg : g = W.heap.size) (hown : w1.ownsRow g 112 1 (.slice (some ⟨g, 0, none⟩) n n) n (madeCells #[Value.int .u32 0] n).toList) (hgrow : W.grownBy w1 none) : TdJ W w1 g n xs (List.replicate n 0) n 0 := by
  subst hg
  refine ⟨by simp, fun d hd => by rw [List.eq_of_mem_replicate hd]; decide, by omega, by omega, ?_, ?_, (Below.refl _ _).grown hgrow (Nat.le_refl _) (by simp)⟩
  · rw [← hx, List.drop_length, List.drop_eq_nil_of_le (by simp)]; rfl
  · rw [made_one] at hown
    simpa using hown
theorem TdJ.cell {W wr : World} {g n : Nat} {xs zs : List Int} {k : Nat} {c : Int} (h : TdJ W wr g n xs zs k c) (j : Nat) (hj : j < zs.length) : wr.cell? ⟨g, j, none⟩ = some (.int .u32 zs[j]) ∧ wr.frozen? ⟨g, j, none⟩ = false := by
  refine ⟨?_, h.own.frozenAt j⟩
  rw [h.own.cellAt j (by rw [← h.len]; omega)]
  simp [hj]
theorem TdJ.step {W wr : World} {g n : Nat} {xs zs : List Int} {m : Nat} {c : Int} (h : TdJ W wr g n xs zs (m + 1) c) (hm : m < xs.length) (hz : m < zs.length) (hd : Dig xs) (t : Int) (ht : t = xs[m] + c * 4294967296) :
    TdJ W (wr.setCell ⟨g, m, none⟩ (.int .u32 (t / 10))) g n xs (zs.set m (t / 10)) m (t % 10) := by
  obtain ⟨o1, o2⟩ := h.own.stored m (.int .u32 (t / 10))
  have hb := dig_at hd m hm
  have h0 := h.c0
  have h1 := h.c1
  refine ⟨by simpa using h.len, dig_set h.dig _ (by omega) (by omega), by omega, by omega, ?_, ?_, h.below.setCell (Nat.le_refl _) _⟩
  · rw [List.drop_eq_getElem_cons hm, List.drop_eq_getElem_cons (show m < (zs.set m (t / 10)).length by simpa using hz), List.getElem_set_self, List.drop_set_of_lt (by omega)]
    simp only [val]
    rw [h.eq]
    omega
  · have : (zs.map (Value.int .u32)).set m (.int .u32 (t / 10)) = (zs.set m (t / 10)).map (Value.int .u32) := by rw [List.map_set]
    rw [← this]; exact o1
theorem conv1 (c : Nat) (T : TypeId) (w : World) : (convert 53 9 (.slice (some ⟨w.heap.size, 0, none⟩) 1 1)).run Try.prog (w.alloc (.cells #[.int .u8 (48 + (c : Int))] T)) = .ok (.string (strL [48 + c])) (w.alloc (.cells #[.int .u8 (48 + (c : Int))] T)) := by
  rw [show 48 + (c : Int) = ((48 + c : Nat) : Int) by omega]
  exact run_convert_bytes_arg (P := Try.prog) _ 53 5 Try.underlying53 Try.underlying5 w.heap.size 0 1 1 [((48 + c : Nat) : Int)] rfl (fun i hi => by
    obtain rfl : i = 0 := by omega
    exact (Blk.new w [.int .u8 ((48 + c : Nat) : Int)] T rfl).c 0 rfl) 9 Try.underlying9
theorem dg_short {ds : List Int} {v k : Nat} (hd : Dig ds) (hl : ds.length ≤ k) (hv : val ds = (v : Int)) : (dg v).length ≤ 32 * k := by
  refine dg_len (32 * k) v ?_
  have h1 := val_lt hd
  rw [hv, pw_two] at h1
  have h2 : v < 2 ^ (32 * ds.length) := by omega
  have h3 : 2 ^ (32 * ds.length) ≤ 2 ^ (32 * k) := Nat.pow_le_pow_right (by omega) (by omega)
  have h4 : 2 ^ (32 * k) ≤ 10 ^ (32 * k) := Nat.pow_le_pow_left (by omega) _
  omega
def strLen : Value → Nat
  | .string b => b.size
  | _ => 0
/-- Between the rounds: the digits that are left, and those that are written. -/
structure LtI (w wr : World) (v : Nat) (vs : List Value) (ao : Option Addr) (n : Nat) (ds : List Int) (ts : List Nat) : Prop where
  len : ds.length = n
  nrm : Nrm ds
  rd : Rd wr ao ds
  fit : n ≤ 1000000
  eq : dg v = dg (val ds).toNat ++ ts
  blk : Blk wr w.heap.size vs
  below : Below w.heap.size w wr
theorem LtI.less {w wr : World} {v : Nat} {vs : List Value} {ao : Option Addr} {n : Nat} {ds : List Int} {ts : List Nat} (h : LtI w wr v vs ao n ds ts) (hn : 0 < n) : ts.length < (dg v).length := by
  have h1 : 0 < val ds := nrm_pos h.nrm (by intro h2; have := h.len; rw [h2] at this; simp at this; omega)
  have h2 := dg_ne (n := (val ds).toNat) (by omega)
  have h3 : 0 < (dg (val ds).toNat).length := List.length_pos_iff.2 h2
  rw [h.eq, List.length_append]
  omega
theorem LtI.done {w wr : World} {v : Nat} {vs : List Value} {ao : Option Addr} {ds : List Int} {ts : List Nat} (h : LtI w wr v vs ao 0 ds ts) : ts = dg v := by
  have h1 : ds = [] := List.length_eq_zero_iff.1 h.len
  have h2 := h.eq
  rw [h1] at h2
  rw [h2, show (val []).toNat = 0 from rfl, dg_zero]; rfl
theorem LtI.next {w wo wr w3 : World} {v : Nat} {vs : List Value} {ao ao' : Option Addr} {n n' : Nat} {ds zs ds' : List Int} {ts : List Nat} {c : Nat} {o : Obj} (h : LtI w wo v vs ao n ds ts) (hn : 0 < n) (hc : c < 10) (hJ : TdJ wo wr wo.heap.size n ds zs 0 c) (hB : Below (wr.alloc o).heap.size (wr.alloc o) w3)
    (k1 : ds'.length = n') (k3 : n' ≤ n) (k4 : Nrm ds') (k5 : val ds' = val zs) (k7 : Rd w3 ao' ds') : LtI w w3 v vs ao' n' ds' ((48 + c) :: ts) := by
  have h1 : 0 < val ds := nrm_pos h.nrm (by intro h2; have := h.len; rw [h2] at this; simp at this; omega)
  have h2 := hJ.eq
  simp only [List.drop_zero] at h2
  have h3 := val_nonneg hJ.dig
  have b1 : Below w.heap.size w wr := h.below.trans (hJ.below.mono h.below.size)
  have b2 : Below w.heap.size w (wr.alloc o) := b1.alloc b1.size _
  refine ⟨k1, k4, k7, by have := h.fit; omega, ?_, ((h.blk.step hJ.below).alloc _).step hB, b2.trans (hB.mono b2.size)⟩
  rw [h.eq, dg_step (n := (val ds).toNat) (by omega), k5, show (val ds).toNat / 10 = (val zs).toNat by omega, show (val ds).toNat % 10 = c by omega, List.append_assoc]
  rfl
theorem LtI.le {w wr : World} {v : Nat} {vs : List Value} {ao : Option Addr} {n : Nat} {ds : List Int} {ts : List Nat} (h : LtI w wr v vs ao n ds ts) : ts.length ≤ (dg v).length := by
  rw [h.eq, List.length_append]
  omega
set_option maxRecDepth 100000 in
set_option maxHeartbeats 2000000 in
theorem l1Text_any (s : Bool) (ao : Option Addr) (n cap : Nat) (ds : List Int) (z : Int) (k : Nat) (w : World) (h : IsNum w s ao n cap ds z k) (hk : k ≤ 1000000) :
    Calls Try.prog 42 #[.agg #[.bool s, .slice ao n cap]] w (VP (.string (txS z)) w) := by
  obtain ⟨i0, hi, hz0, hz1, hz2⟩ := info_parts Try.info88
  by_cases hz : z = 0
  · obtain rfl : n = 0 := h.zero.2 hz
    subst hz
    clear h
    have hT : Hid (txS 0 = strL [48]) := by show _ = _; unfold txS txL; rw [show (0 : Int).natAbs = 0 from rfl, dgs_zero]; rfl
    go_enter Try.func42, Try.ntmps42
    go_wp2
    go_ret
    exact ⟨by rw [hT.out]; rfl, (Below.refl _ _).alloc (Nat.le_refl _) _⟩
  · have hn0 : ((n : Int) == 0) = false := beq_eq_false_iff_ne.2 (by intro h2; exact hz (h.zero.1 (by omega)))
    have hnk := h.le
    have hv : Hid (val ds = (z.natAbs : Int)) := h.val
    have hs : Hid (s = decide (z < 0)) := h.neg
    have HI0 : LtI w (w.alloc (Obj.cells #[.bool s, .slice ao n cap] 66)) z.natAbs [.bool s, .slice ao n cap] ao n ds [] :=
      ⟨h.len, h.nrm, h.rd.below ((Below.refl _ _).alloc (Nat.le_refl _) _) (Nat.le_refl _), by omega, by rw [hv.out]; simp, Blk.new w [.bool s, .slice ao n cap] _ rfl, (Below.refl _ _).alloc (Nat.le_refl _) _⟩
    have HI : Hid (LtI w (w.alloc (Obj.cells #[.bool s, .slice ao n cap] 66)) z.natAbs [.bool s, .slice ao n cap] ao n ds []) := HI0
    have HZ : Hid (z ≠ 0) := hz
    have HL : Hid ((dg z.natAbs).length ≤ 32000000) := by
      have := dg_short h.nrm.1 (by rw [h.len]; exact hnk) h.val
      show _ ≤ _
      omega
    clear h HI0 hz
    go_enter Try.func42, Try.ntmps42
    go_wp2_with fail
    generalize (w.alloc (Obj.cells #[.bool s, .slice ao n cap] 66)) = W at *
    go_loopw [3, 4] (fun tv rv wr => ∃ (ao2 : Option Addr) (m c2 : Nat) (es : List Int) (ts : List Nat), tv = .string (strL ts) ∧ rv = .slice ao2 m c2 ∧ LtI w wr z.natAbs [.bool s, .slice ao n cap] ao2 m es ts) (fun tv _ _ => (dg z.natAbs).length - strLen tv)
    case atStart => exact ⟨ao, n, cap, ds, [], rfl, rfl, HI.out⟩
    case round =>
      clear HI
      obtain ⟨ao2, m, c2, es, ts, rfl, rfl, hI⟩ := hrel
      have HII : Hid (LtI w wr z.natAbs [.bool s, .slice ao n cap] ao2 m es ts) := hI
      have hfit := hI.fit
      have hshort : ts.length ≤ 32000000 := Nat.le_trans hI.le HL.out
      have hssz := strL_size ts
      by_cases hm : 0 < m
      · have hless : Hid (ts.length < (dg z.natAbs).length) := hI.less hm
        clear hI
        go_wp2_with (at_make; refine wpList_make_full _ rfl _ _ 64 rfl wr.heap.size 112 i0 (.int .u32 0) 1 Try.underlying64 hi hz0 hz1 _ _ _ _ m rfl rfl (by omega) (by omega) (by rw [hz2]; omega) (by unfold maxLen; omega) (Nat.le_refl _) ?_)
        intro w1 hown hgrow
        have HS : TdJ wr w1 wr.heap.size m es (List.replicate m 0) m 0 := TdJ.start HII.out.len rfl (by simpa using hown) hgrow
        clear hown hgrow
        go_wp2
        obtain ⟨wo, hwo⟩ : ∃ wo : World, wo = wr := ⟨_, rfl⟩
        subst hwo
        go_loopw [6, 7] (fun cv iv wx => ∃ (j : Nat) (c : Int) (zs : List Int), j ≤ m ∧ iv = .int .i64 ((j : Int) - 1) ∧ cv = .int .u64 c ∧ TdJ wo wx wo.heap.size m es zs j c) (fun _ iv _ => (intOf iv + 1).toNat)
        case atStart => exact ⟨m, 0, _, Nat.le_refl _, by go_num, rfl, HS⟩
        case round =>
          clear HS
          obtain ⟨j, c, zs, hj, rfl, rfl, hJ⟩ := hrel
          have zlen := hJ.len
          have HJ : Hid (TdJ wo wr wo.heap.size m es zs j c) := hJ
          by_cases hj0 : 0 < j
          · obtain ⟨q, rfl⟩ : ∃ q, j = q + 1 := ⟨j - 1, by omega⟩
            have hqe : q < es.length := by have := HII.out.len; omega
            have hqz : q < zs.length := by omega
            obtain ⟨bx, ox, rfl, hbx, hcx0⟩ := HII.out.rd q hqe
            obtain ⟨hx0, hx1⟩ := dig_at HII.out.nrm.1 q hqe
            have hcx := (hJ.below.cell (p := ⟨bx, ox + q, none⟩) hbx).trans hcx0
            obtain ⟨hcz, hfz⟩ := hJ.cell q hqz
            have hc0 := hJ.c0
            have hc1 := hJ.c1
            obtain ⟨x, hx⟩ : ∃ x, x = es[q] + c * 4294967296 := ⟨_, rfl⟩
            have hor : bits .or .u64 (c * 4294967296) es[q] = x := by
              have := or_hi es[q] c ⟨hx0, hx1⟩ ⟨hc0, by omega⟩
              rw [wrap_word (by omega) (by omega)] at this
              rw [hx]; exact this
            have d1 : x.tdiv 10 = x / 10 := Int.tdiv_eq_ediv_of_nonneg (by omega)
            have d2 : x.tmod 10 = x % 10 := Int.tmod_eq_emod_of_nonneg (by omega)
            have d3 : IntKind.u64.wrap (x / 10) = x / 10 := wrap_word (by omega) (by omega)
            have d4 : x / 10 % 4294967296 = x / 10 := by omega
            have R1 : Hid (TdJ wo (wr.setCell ⟨wo.heap.size, q, none⟩ (.int .u32 (x / 10))) wo.heap.size m es (zs.set q (x / 10)) q (x % 10)) := hJ.step hqe hqz HII.out.nrm.1 x hx
            have HX : Hid (x = es[q] + c * 4294967296) := hx
            have e1 : ((q + 1 : Nat) : Int) - 1 = q := by omega
            have hx2 : 0 ≤ x := by omega
            have hx3 : x < 42949672960 := by omega
            have hqm : (q : Int) < m := by omega
            rw [e1]
            clear hJ hx hcx0 e1
            go_wp2
            go_roundw
            case rel => exact ⟨q, x % 10, _, by omega, by go_num, by first | rfl | (rw [d2]), R1.out⟩
            case measure => simp [intOf]
          · obtain rfl : j = 0 := by omega
            have hc0 := hJ.c0
            have hc1 := hJ.c1
            obtain ⟨c, rfl⟩ : ∃ e : Nat, c = e := ⟨c.toNat, by omega⟩
            have hE : Hid (val es = 10 * val zs + c) := by have := hJ.eq; simp only [List.drop_zero] at this; exact this
            have hss1 := strL_size [48 + c]
            have CV := conv1 c 5 wr
            have R2 : Rd (wr.alloc (Obj.cells #[.int .u8 (48 + (c : Int))] 5)) (some ⟨wo.heap.size, 0, none⟩) zs := (Rd.own hJ.own hJ.len).below ((Below.refl _ _).alloc (Nat.le_refl _) _) (Nat.le_refl _)
            have R1 := hJ.dig
            have hc : Hid (c < 10) := by show _ < _; omega
            clear hJ
            go_wp2_with fail
            refine (trim_any false _ _ _ zs _ zlen (Nat.le_refl _) R1 R2 (by omega)).mono ?_
            rintro e w3 ⟨neg', ao', n', cap', ds', rfl, k1, k2, k3, k4, k5, k6, k7, k8⟩
            have N1 : Hid (LtI w w3 z.natAbs [.bool s, .slice ao n cap] ao' n' ds' ((48 + c) :: ts)) := HII.out.next hm hc.out HJ.out k8 k1 k3 k4 k5 k7
            have fd := field_d (.bool neg') (.slice ao' n' cap')
            have hcat : Hid (strL [48 + c] ++ strL ts = strL ((48 + c) :: ts)) := (strL_append [48 + c] ts).symm
            clear k1 k2 k3 k4 k5 k6 k7 k8 R1 R2 HJ HII CV hE
            go_wp2
            go_roundw
            case rel => exact ⟨ao', n', cap', ds', (48 + c) :: ts, by rw [hcat.out], rfl, N1.out⟩
            case measure =>
              have := hless.out
              rw [hcat.out]
              simp only [strLen, strL_size, List.length_cons]
              omega
      · obtain rfl : m = 0 := by omega
        have hd : Hid (ts = dg z.natAbs) := hI.done
        obtain ⟨b0, b1⟩ := hI.blk.cs2
        have HB := hI.below
        clear hI
        by_cases hz0 : z < 0
        · have hT : Hid (txS z = strL (45 :: ts)) := by show _ = _; unfold txS txL; rw [if_pos hz0, dgs_pos (by omega), hd.out]; rfl
          obtain rfl : s = true := by rw [hs.out]; exact decide_eq_true hz0
          clear hz0
          go_wp2
          go_ret
          exact ⟨by rw [hT.out]; exact congrArg (fun b => Ending.returned (Value.string b)) (strL_append [45] ts).symm, HB⟩
        · have hT : Hid (txS z = strL ts) := by show _ = _; unfold txS txL; rw [if_neg hz0, dgs_pos (by have := HZ.out; omega), hd.out]; rfl
          obtain rfl : s = false := by rw [hs.out]; exact decide_eq_false hz0
          clear hz0
          go_wp2
          go_ret
          exact ⟨by rw [hT.out]; rfl, HB⟩
end Go.Proofs.Ytnnojeggjnddpaa

/- The text of a number: the law over both sides. -/
namespace Go.Proofs.Ytnnojeggjnddpaa
open Go.RowKit
end Go.Proofs.Ytnnojeggjnddpaa

/- Points: the program's walks. -/
namespace Go.Proofs.Ytnnojeggjnddpaa
open Go.RowKit
theorem ArgsB.more {w W : World} {vss : List (List Value)} (h : ArgsB w W vss) (hl : W.heap.size = w.heap.size + vss.length) (b : List Value) (T : TypeId) : ArgsB w (W.alloc (.cells b.toArray T)) (vss ++ [b]) := by
  refine ⟨(h.alloc _).below, fun j vs hj => ?_⟩
  rcases Nat.lt_trichotomy j vss.length with hlt | rfl | hgt
  · rw [List.getElem?_append_left hlt] at hj
    exact (h.b j hj).alloc _
  · simp at hj
    subst hj
    exact Blk.new W b T hl.symm
  · rw [List.getElem?_eq_none (by simp; omega)] at hj
    cases hj
theorem ArgsB.left {w W : World} {us vs : List (List Value)} (h : ArgsB w W (us ++ vs)) : ArgsB w W us := by
  refine ⟨h.below, fun j xs hj => h.b j ?_⟩
  rw [List.getElem?_append_left]
  · exact hj
  · rcases Nat.lt_or_ge j us.length with h | h
    · exact h
    · rw [List.getElem?_eq_none h] at hj; cases hj
end Go.Proofs.Ytnnojeggjnddpaa

/- Points: what three numbers have in common. -/
namespace Go.Proofs.Ytnnojeggjnddpaa
open Go.RowKit
end Go.Proofs.Ytnnojeggjnddpaa

/- Points: whether one is right, by the program. -/
namespace Go.Proofs.Ytnnojeggjnddpaa
open Go.RowKit
abbrev PV (x y z : Int) : Value := .agg #[.int .u64 (ww3 x), .int .u64 (ww2 x), .int .u64 (ww1 x), .int .u64 (ww0 x), .int .u64 (ww3 y), .int .u64 (ww2 y), .int .u64 (ww1 y), .int .u64 (ww0 y), .int .u64 (ww3 z), .int .u64 (ww2 z), .int .u64 (ww1 z), .int .u64 (ww0 z)]
end Go.Proofs.Ytnnojeggjnddpaa

/- A spot as a point: the walks of the model's point, told, of the program's, and of the law. -/
namespace Go.Proofs.Ytnnojeggjnddpaa
open Go.RowKit
end Go.Proofs.Ytnnojeggjnddpaa

/- Points: the model's numbers of a point, and whether it is right. -/
namespace Go.Proofs.Ytnnojeggjnddpaa
open Go.RowKit
end Go.Proofs.Ytnnojeggjnddpaa

/- Points: the model's word on whether one is right. -/
namespace Go.Proofs.Ytnnojeggjnddpaa
open Go.RowKit
end Go.Proofs.Ytnnojeggjnddpaa

/- A number read from its text: the reckoning, of no program. -/
namespace Go.Proofs.Ytnnojeggjnddpaa
/-- Bytes without a sign. -/
def cutM (l : List Nat) : List Nat := if l.head? = some 45 then l.tail else l
/-- That bytes are a number of at most 77 digits as it is written. -/
def RdOk (l : List Nat) : Prop := DecL (cutM l) ∧ (cutM l).length ≤ 77 ∧ ¬ (l.head? = some 45 ∧ cutM l = [48])
/-- The number that bytes stand for. -/
def rdI (l : List Nat) : Int := if l.head? = some 45 then -(rdN (cutM l) : Int) else (rdN (cutM l) : Int)
theorem cutM_neg {l : List Nat} (h : l.head? = some 45) : l = 45 :: cutM l := by
  unfold cutM
  rw [if_pos h]
  cases l with
  | nil => simp at h
  | cons x t => simp only [List.head?_cons, Option.some.injEq] at h; rw [h]; rfl
theorem cutM_pos {l : List Nat} (h : ¬ l.head? = some 45) : cutM l = l := by unfold cutM; rw [if_neg h]
theorem rd_tx {l : List Nat} (h : RdOk l) : txL (rdI l) = l := by
  obtain ⟨h1, h2, h3⟩ := h
  have h4 := dgs_rdN h1
  unfold txL rdI
  by_cases hn : l.head? = some 45
  · rw [if_pos hn]
    have h5 : rdN (cutM l) ≠ 0 := by
      intro h6
      rw [h6, dgs_zero] at h4
      exact h3 ⟨hn, h4.symm⟩
    rw [if_pos (by omega), Int.natAbs_neg, Int.natAbs_natCast, h4]
    exact (cutM_neg hn).symm
  · rw [if_neg hn, if_neg (by omega), Int.natAbs_natCast, h4, cutM_pos hn]
    rfl
theorem head_dgs (n : Nat) : ¬ (dgs n).head? = some 45 := by
  intro h
  have h1 := dgs_isD n 45 (List.mem_of_mem_head? h)
  unfold isD at h1
  omega
theorem tx_neg {z : Int} (h : z < 0) : txL z = 45 :: dgs z.natAbs := by unfold txL; rw [if_pos h]; rfl
theorem tx_pos {z : Int} (h : ¬ z < 0) : txL z = dgs z.natAbs := by unfold txL; rw [if_neg h]; rfl
theorem tx_rd {z : Int} (h : z.natAbs < 10 ^ 77) : RdOk (txL z) ∧ rdI (txL z) = z := by
  have h1 := dgs_dec z.natAbs
  have h2 := dgs_len (k := 77) (by omega) h
  by_cases hz : z < 0
  · have hc : cutM (txL z) = dgs z.natAbs := by unfold cutM; rw [tx_neg hz]; rfl
    have hh : (txL z).head? = some 45 := by rw [tx_neg hz]; rfl
    refine ⟨⟨by rw [hc]; exact h1, by rw [hc]; exact h2, fun h3 => ?_⟩, ?_⟩
    · rw [hc] at h3
      have h4 := congrArg rdN h3.2
      rw [rdN_dgs] at h4
      have : z.natAbs = 0 := h4
      omega
    · unfold rdI
      rw [if_pos hh, hc, rdN_dgs]
      omega
  · have hh : ¬ (txL z).head? = some 45 := by rw [tx_pos hz]; exact head_dgs _
    have hc : cutM (txL z) = dgs z.natAbs := by rw [cutM_pos hh, tx_pos hz]
    refine ⟨⟨by rw [hc]; exact h1, by rw [hc]; exact h2, fun h3 => hh h3.1⟩, ?_⟩
    unfold rdI
    rw [if_neg hh, hc, rdN_dgs]
    omega
theorem tx_len {z : Int} (h : z.natAbs < 10 ^ 77) : (txL z).length ≤ 78 := by
  have h2 := dgs_len (k := 77) (by omega) h
  by_cases hz : z < 0
  · rw [tx_neg hz, List.length_cons]; omega
  · rw [tx_pos hz]; omega
theorem tx_inj {x y : Int} (h : txL x = txL y) : x = y := by
  by_cases hx : x < 0 <;> by_cases hy : y < 0
  · rw [tx_neg hx, tx_neg hy, List.cons.injEq] at h
    have := congrArg rdN h.2
    rw [rdN_dgs, rdN_dgs] at this
    omega
  · rw [tx_neg hx, tx_pos hy] at h
    exact absurd (by rw [← h]; rfl) (head_dgs y.natAbs)
  · rw [tx_pos hx, tx_neg hy] at h
    exact absurd (by rw [h]; rfl) (head_dgs x.natAbs)
  · rw [tx_pos hx, tx_pos hy] at h
    have := congrArg rdN h
    rw [rdN_dgs, rdN_dgs] at this
    omega
theorem btL_extract (s : ByteArray) (a b : Nat) : btL (s.extract a b) = ((btL s).drop a).take (b - a) := by
  unfold btL
  rw [ByteArray.data_extract, Array.toList_extract, List.extract_eq_take_drop, List.map_take, List.map_drop]
end Go.Proofs.Ytnnojeggjnddpaa

/- The texts of fractions and of points: the program's. -/
namespace Go.Proofs.Ytnnojeggjnddpaa
open Go.RowKit
abbrev QV (x y : Int) : Value := .agg #[.int .u64 (ww3 x), .int .u64 (ww2 x), .int .u64 (ww1 x), .int .u64 (ww0 x), .int .u64 (ww3 y), .int .u64 (ww2 y), .int .u64 (ww1 y), .int .u64 (ww0 y)]
/-- What stands under a number, as it is written. -/
def unL (y : Int) : List Nat := if y = 1 then [] else 47 :: txL y
def raL (x y : Int) : List Nat := txL x ++ unL y
theorem unL_one : unL 1 = [] := by unfold unL; rw [if_pos rfl]
theorem unL_not {y : Int} (h : ¬ y = 1) : unL y = 47 :: txL y := by unfold unL; rw [if_neg h]
theorem told77 {z : Int} (h : told z = true) : z.natAbs < 10 ^ 77 := by
  have := of_decide_eq_true h
  omega
theorem txS_le {z : Int} (h : told z = true) : (txS z).size ≤ 78 := by
  unfold txS
  rw [strL_size]
  exact tx_len (told77 h)
theorem unL_le {y : Int} (h : told y = true) : (strL (unL y)).size ≤ 79 := by
  rw [strL_size]
  unfold unL
  have := tx_len (told77 h)
  split
  · simp
  · rw [List.length_cons]; omega
theorem textI_det (x : Int) (hx : told x = true) (w : World) : Calls Try.prog 14 #[W4 x] w (VP (.string (txS x)) w) := by
  obtain ⟨g3, g2, g1, g0⟩ := ww_words x
  have := implText_any _ _ _ _ g3 g2 g1 g0 w
  rw [ww_sw hx] at this
  exact this
theorem one_det (w : World) : Calls Try.prog 95 #[.int .i64 1] w (VP (W4 1) w) := by
  refine (implOf_any 1 w (by decide) (by decide)).mono ?_
  rintro e w1 ⟨a3, a2, a1, a0, rfl, h3, h2, h1, h0, hz, hB⟩
  obtain ⟨rfl, rfl, rfl, rfl⟩ := wd_of h3 h2 h1 h0 hz
  exact ⟨rfl, hB⟩
theorem told_one : told 1 = true := by decide
set_option maxRecDepth 100000 in
set_option maxHeartbeats 2000000 in
theorem eqW10 (x u : Int) (hx : told x = true) (hu : told u = true) (w : World) : (Op.equalIn 10000 26 (W4 x) (W4 u)).run Try.prog w = .ok (decide (x = u)) w := by
  have E : ∀ a3 a2 a1 a0 b3 b2 b1 b0 : Int, (Op.equalIn 10000 26 (.agg #[.int .u64 a3, .int .u64 a2, .int .u64 a1, .int .u64 a0]) (.agg #[.int .u64 b3, .int .u64 b2, .int .u64 b1, .int .u64 b0])).run Try.prog w = .ok (a3 == b3 && a2 == b2 && a1 == b1 && a0 == b0) w := by
    intro a3 a2 a1 a0 b3 b2 b1 b0
    have u3 := Try.underlying22
    have a3' := Try.isAgg22
    have z3 := Try.sizeOf22
    rw [show (10000 : Nat) = 9999 + 1 from rfl, Op.equalIn]
    simp only [Sem.run_bind, run_underlying Try.underlying26, Result.andThen_ok]
    go_simp
    by_cases h3 : a3 = b3
    · subst h3
      by_cases h2 : a2 = b2
      · subst h2
        by_cases h1 : a1 = b1
        · subst h1
          by_cases h0 : a0 = b0
          · subst h0
            simp
          · simp [h0]
        · simp [h1]
      · simp [h2]
    · simp [h3]
  rw [E]
  congr 1
  rw [Bool.eq_iff_iff]
  simp only [Bool.and_eq_true, beq_iff_eq, decide_eq_true_eq]
  constructor
  · rintro ⟨⟨⟨e3, e2⟩, e1⟩, e0⟩
    rw [← ww_sw hx, ← ww_sw hu, e3, e2, e1, e0]
  · rintro rfl
    exact ⟨⟨⟨rfl, rfl⟩, rfl⟩, rfl⟩
set_option maxRecDepth 100000 in
set_option maxHeartbeats 2000000 in
theorem under_det (y : Int) (hy : told y = true) (w : World) : Calls Try.prog 59 #[W4 y] w (VP (.string (strL (unL y))) w) := by
  have C1 := one_det
  have C2 := textI_det y hy
  have E := eqW10 y 1 hy told_one
  have hsz := txS_le hy
  have X0 := Blk.new w [.int .u64 (ww3 y), .int .u64 (ww2 y), .int .u64 (ww1 y), .int .u64 (ww0 y)] 26 rfl
  have HB := (Below.refl _ w).alloc (Nat.le_refl _) (.cells #[.int .u64 (ww3 y), .int .u64 (ww2 y), .int .u64 (ww1 y), .int .u64 (ww0 y)] 26)
  rw [show ([.int .u64 (ww3 y), .int .u64 (ww2 y), .int .u64 (ww1 y), .int .u64 (ww0 y)] : List Value).toArray = #[.int .u64 (ww3 y), .int .u64 (ww2 y), .int .u64 (ww1 y), .int .u64 (ww0 y)] from rfl] at X0
  by_cases h1 : y = 1
  · rw [decide_eq_true h1] at E
    have HO : Hid (unL y = []) := by show _ = _; rw [h1]; exact unL_one
    clear h1
    go_enter Try.func59, Try.ntmps59
    go_wp2_with fail
    generalize (w.alloc (.cells #[.int .u64 (ww3 y), .int .u64 (ww2 y), .int .u64 (ww1 y), .int .u64 (ww0 y)] 26)) = W at *
    go_region_held3 (fun w' => w'.cell? ⟨w.heap.size, 0, none⟩ = some (.int .u64 (ww3 y)) ∧ w'.cell? ⟨w.heap.size, 1, none⟩ = some (.int .u64 (ww2 y)) ∧ w'.cell? ⟨w.heap.size, 2, none⟩ = some (.int .u64 (ww1 y)) ∧ w'.cell? ⟨w.heap.size, 3, none⟩ = some (.int .u64 (ww0 y))) (first | (with_reducible exact X0.cs4) | (with_reducible exact X0.drew.cs4))
      (first | (go_at_call 95; refine (C1 _).mono ?_; rintro e w1 ⟨rfl, hB⟩; (first | (replace X0 := X0.step hB; replace HB := HB.trans (hB.mono HB.size)) | (replace X0 := X0.drew.step hB; replace HB := HB.drew.trans (hB.mono HB.size))); clear hB))
    all_goals go_wp2
    all_goals go_ret
    all_goals exact ⟨by rw [HO.out]; rfl, by first | exact HB | exact HB.drew⟩
  · rw [decide_eq_false h1] at E
    have HO : Hid (unL y = 47 :: txL y) := unL_not h1
    clear h1
    go_enter Try.func59, Try.ntmps59
    go_wp2_with fail
    generalize (w.alloc (.cells #[.int .u64 (ww3 y), .int .u64 (ww2 y), .int .u64 (ww1 y), .int .u64 (ww0 y)] 26)) = W at *
    go_region_held3 (fun w' => w'.cell? ⟨w.heap.size, 0, none⟩ = some (.int .u64 (ww3 y)) ∧ w'.cell? ⟨w.heap.size, 1, none⟩ = some (.int .u64 (ww2 y)) ∧ w'.cell? ⟨w.heap.size, 2, none⟩ = some (.int .u64 (ww1 y)) ∧ w'.cell? ⟨w.heap.size, 3, none⟩ = some (.int .u64 (ww0 y))) (first | (with_reducible exact X0.cs4) | (with_reducible exact X0.drew.cs4))
      (first | (go_at_call 95; refine (C1 _).mono ?_; rintro e w1 ⟨rfl, hB⟩; (first | (replace X0 := X0.step hB; replace HB := HB.trans (hB.mono HB.size)) | (replace X0 := X0.drew.step hB; replace HB := HB.drew.trans (hB.mono HB.size))); clear hB))
    all_goals obtain ⟨c0, c1, c2, c3⟩ := X0.cs4
    all_goals go_wp2_with fail
    all_goals refine (C2 _).mono ?_
    all_goals rintro e w2 ⟨rfl, hB⟩
    all_goals have HB2 := HB.trans (Below.mono (by first | exact hB | exact hB) HB.size)
    all_goals clear hB
    all_goals go_wp2
    all_goals go_ret
    all_goals exact ⟨by rw [HO.out]; exact congrArg (fun b => Ending.returned (Value.string b)) (strL_append [47] (txL y)).symm, HB2⟩
set_option maxRecDepth 100000 in
set_option maxHeartbeats 2000000 in
theorem ratText_det (x y : Int) (hx : told x = true) (hy : told y = true) (w : World) : Calls Try.prog 20 #[QV x y] w (VP (.string (strL (if rightB x y = true then raL x y else []))) w) := by
  have C0 : ∀ w, Calls Try.prog 58 #[QV x y] w (BoolP (rightB x y) w) := by
    intro w
    obtain ⟨g3, g2, g1, g0⟩ := ww_words x
    obtain ⟨k3, k2, k1, k0⟩ := ww_words y
    have := right_any _ _ _ _ _ _ _ _ g3 g2 g1 g0 k3 k2 k1 k0 w
    rw [ww_sw hx, ww_sw hy] at this
    exact this
  have C1 := textI_det x hx
  have C2 := under_det y hy
  have hs1 := txS_le hx
  have hs2 := unL_le hy
  have q1 : ¬ (9223372036854775807 < (txS x).size + (strL (unL y)).size) := by omega
  have X0 := Blk.new w [.int .u64 (ww3 x), .int .u64 (ww2 x), .int .u64 (ww1 x), .int .u64 (ww0 x), .int .u64 (ww3 y), .int .u64 (ww2 y), .int .u64 (ww1 y), .int .u64 (ww0 y)] 37 rfl
  have HB := (Below.refl _ w).alloc (Nat.le_refl _) (.cells #[.int .u64 (ww3 x), .int .u64 (ww2 x), .int .u64 (ww1 x), .int .u64 (ww0 x), .int .u64 (ww3 y), .int .u64 (ww2 y), .int .u64 (ww1 y), .int .u64 (ww0 y)] 37)
  rw [show ([.int .u64 (ww3 x), .int .u64 (ww2 x), .int .u64 (ww1 x), .int .u64 (ww0 x), .int .u64 (ww3 y), .int .u64 (ww2 y), .int .u64 (ww1 y), .int .u64 (ww0 y)] : List Value).toArray = #[.int .u64 (ww3 x), .int .u64 (ww2 x), .int .u64 (ww1 x), .int .u64 (ww0 x), .int .u64 (ww3 y), .int .u64 (ww2 y), .int .u64 (ww1 y), .int .u64 (ww0 y)] from rfl] at X0
  cases hb : rightB x y
  · rw [hb] at C0
    rw [if_neg (by decide)]
    clear hb
    obtain ⟨c0, c1, c2, c3, c4, c5, c6, c7⟩ := X0.cs8
    go_enter Try.func20, Try.ntmps20
    go_wp2_with fail
    refine (C0 _).mono ?_
    rintro e w1 ⟨rfl, hB⟩
    have HB2 := HB.trans (hB.mono HB.size)
    clear hB
    go_wp2
    go_ret
    exact ⟨rfl, HB2⟩
  · rw [hb] at C0
    rw [if_pos rfl]
    clear hb
    obtain ⟨c0, c1, c2, c3, c4, c5, c6, c7⟩ := X0.cs8
    go_enter Try.func20, Try.ntmps20
    go_wp2_with fail
    refine (C0 _).mono ?_
    rintro e w1 ⟨rfl, hB⟩
    replace X0 := X0.step hB
    replace HB := HB.trans (hB.mono HB.size)
    clear hB C0 c0 c1 c2 c3 c4 c5 c6 c7
    go_wp2_with fail
    go_region_held3 (fun w' => w'.cell? ⟨w.heap.size, 0, none⟩ = some (.int .u64 (ww3 x)) ∧ w'.cell? ⟨w.heap.size, 1, none⟩ = some (.int .u64 (ww2 x)) ∧ w'.cell? ⟨w.heap.size, 2, none⟩ = some (.int .u64 (ww1 x)) ∧ w'.cell? ⟨w.heap.size, 3, none⟩ = some (.int .u64 (ww0 x)) ∧ w'.cell? ⟨w.heap.size, 4, none⟩ = some (.int .u64 (ww3 y)) ∧ w'.cell? ⟨w.heap.size, 5, none⟩ = some (.int .u64 (ww2 y)) ∧ w'.cell? ⟨w.heap.size, 6, none⟩ = some (.int .u64 (ww1 y)) ∧ w'.cell? ⟨w.heap.size, 7, none⟩ = some (.int .u64 (ww0 y))) (first | (with_reducible exact X0.cs8) | (with_reducible exact X0.drew.cs8))
      (first
        | (go_at_call 14; refine (C1 _).mono ?_; rintro e w2 ⟨rfl, hB⟩; (first | (replace X0 := X0.step hB; replace HB := HB.trans (hB.mono HB.size)) | (replace X0 := X0.drew.step hB; replace HB := HB.drew.trans (hB.mono HB.size))); clear hB)
        | (go_at_call 59; refine (C2 _).mono ?_; rintro e w3 ⟨rfl, hB⟩; (first | (replace X0 := X0.step hB; replace HB := HB.trans (hB.mono HB.size)) | (replace X0 := X0.drew.step hB; replace HB := HB.drew.trans (hB.mono HB.size))); clear hB))
    all_goals go_wp2
    all_goals go_ret
    all_goals exact ⟨congrArg (fun b => Ending.returned (Value.string b)) (strL_append (txL x) (unL y)).symm, by first | exact HB | exact HB.drew⟩
end Go.Proofs.Ytnnojeggjnddpaa

/- The texts of fractions and of points: the model's. -/
namespace Go.Proofs.Ytnnojeggjnddpaa
open Go.RowKit
theorem cmp_one (y : Int) : (cmpI y 1 == 0) = decide (y = 1) := by
  unfold cmpI
  by_cases h : y = 1
  · subst h; rfl
  · rw [decide_eq_false h]
    split
    · rfl
    · split
      · rfl
      · omega
set_option maxRecDepth 100000 in
set_option maxHeartbeats 2000000 in
theorem specRatText_det (x y : Int) (hx : told x = true) (hy : told y = true) (w : World) : Calls Try.prog 18 #[QV x y] w (VP (.string (strL (if rightB x y = true then raL x y else []))) w) := by
  have C0 : ∀ w, Calls Try.prog 54 #[QV x y] w (BoolP (rightB x y) w) := by
    intro w
    obtain ⟨g3, g2, g1, g0⟩ := ww_words x
    obtain ⟨k3, k2, k1, k0⟩ := ww_words y
    have := specRatioOk_any _ _ _ _ _ _ _ _ g3 g2 g1 g0 k3 k2 k1 k0 w
    rw [ww_sw hx, ww_sw hy] at this
    exact this
  have CO : ∀ w, Calls Try.prog 55 #[QV x y] w (TwoNP x y w) := by
    intro w
    obtain ⟨g3, g2, g1, g0⟩ := ww_words x
    obtain ⟨k3, k2, k1, k0⟩ := ww_words y
    have := l2Of_any _ _ _ _ _ _ _ _ g3 g2 g1 g0 k3 k2 k1 k0 w
    rw [ww_sw hx, ww_sw hy] at this
    exact this
  have hs1 := txS_le hx
  have hs2 := txS_le hy
  have X0 := Blk.new w [.int .u64 (ww3 x), .int .u64 (ww2 x), .int .u64 (ww1 x), .int .u64 (ww0 x), .int .u64 (ww3 y), .int .u64 (ww2 y), .int .u64 (ww1 y), .int .u64 (ww0 y)] 37 rfl
  have HB := (Below.refl _ w).alloc (Nat.le_refl _) (.cells #[.int .u64 (ww3 x), .int .u64 (ww2 x), .int .u64 (ww1 x), .int .u64 (ww0 x), .int .u64 (ww3 y), .int .u64 (ww2 y), .int .u64 (ww1 y), .int .u64 (ww0 y)] 37)
  rw [show ([.int .u64 (ww3 x), .int .u64 (ww2 x), .int .u64 (ww1 x), .int .u64 (ww0 x), .int .u64 (ww3 y), .int .u64 (ww2 y), .int .u64 (ww1 y), .int .u64 (ww0 y)] : List Value).toArray = #[.int .u64 (ww3 x), .int .u64 (ww2 x), .int .u64 (ww1 x), .int .u64 (ww0 x), .int .u64 (ww3 y), .int .u64 (ww2 y), .int .u64 (ww1 y), .int .u64 (ww0 y)] from rfl] at X0
  cases hb : rightB x y
  · rw [hb] at C0
    rw [if_neg (by decide)]
    clear hb
    obtain ⟨c0, c1, c2, c3, c4, c5, c6, c7⟩ := X0.cs8
    go_enter Try.func18, Try.ntmps18
    go_wp2_with fail
    refine (C0 _).mono ?_
    rintro e w1 ⟨rfl, hB⟩
    have HB2 := HB.trans (hB.mono HB.size)
    clear hB
    go_wp2
    go_ret
    exact ⟨rfl, HB2⟩
  · rw [hb] at C0
    rw [if_pos rfl]
    clear hb
    obtain ⟨c0, c1, c2, c3, c4, c5, c6, c7⟩ := X0.cs8
    go_enter Try.func18, Try.ntmps18
    go_wp2_with fail
    refine (C0 _).mono ?_
    rintro e w1 ⟨rfl, hB⟩
    replace X0 := X0.step hB
    replace HB := HB.trans (hB.mono HB.size)
    clear hB C0 c0 c1 c2 c3 c4 c5 c6 c7
    obtain ⟨c0, c1, c2, c3, c4, c5, c6, c7⟩ := X0.cs8
    go_wp2_with fail
    refine (CO _).mono ?_
    rintro e w2 ⟨s1, o1, n1, k1, d1, s2, o2, n2, k2, d2, rfl, N1, N2, hB⟩
    replace HB := HB.trans (hB.mono HB.size)
    clear hB CO X0 c0 c1 c2 c3 c4 c5 c6 c7
    generalize k1 = c1 at *
    generalize k2 = c2 at *
    have X0 := Blk.new w2 [.bool s1, .slice o1 n1 c1, .bool s2, .slice o2 n2 c2] 86 rfl
    rw [show ([.bool s1, .slice o1 n1 c1, .bool s2, .slice o2 n2 c2] : List Value).toArray = #[.bool s1, .slice o1 n1 c1, .bool s2, .slice o2 n2 c2] from rfl] at X0
    replace HB := HB.alloc HB.size (.cells #[.bool s1, .slice o1 n1 c1, .bool s2, .slice o2 n2 c2] 86)
    replace N1 := N1.alloc (.cells #[.bool s1, .slice o1 n1 c1, .bool s2, .slice o2 n2 c2] 86)
    replace N2 := N2.alloc (.cells #[.bool s1, .slice o1 n1 c1, .bool s2, .slice o2 n2 c2] 86)
    go_upto_region 4 with fail
    generalize (w2.alloc (.cells #[.bool s1, .slice o1 n1 c1, .bool s2, .slice o2 n2 c2] 86)) = W at *
    generalize w2.heap.size = g at *
    go_cut [13] (fun p wx => p = .bool (decide (y = 1)) ∧ Blk wx g [.bool s1, .slice o1 n1 c1, .bool s2, .slice o2 n2 c2] ∧ Below w.heap.size w wx ∧ IsNum wx s1 o1 n1 c1 d1 x 8 ∧ IsNum wx s2 o2 n2 c2 d2 y 8)
    case first =>
      go_region_held3 (fun w' => w'.cell? ⟨g, 0, none⟩ = some (.bool s1) ∧ w'.cell? ⟨g, 1, none⟩ = some (.slice o1 n1 c1) ∧ w'.cell? ⟨g, 2, none⟩ = some (.bool s2) ∧ w'.cell? ⟨g, 3, none⟩ = some (.slice o2 n2 c2)) (first | (with_reducible exact X0.cs4) | (with_reducible exact X0.drew.cs4))
        (first
          | (go_at_call 57; refine (int_any 1 _ (by decide) (by decide)).mono ?_; rintro e w3 ⟨s5, o5, n5, c5, d5, rfl, N5, hB⟩; (first | (replace X0 := X0.step hB; replace HB := HB.trans (hB.mono HB.size); replace N1 := N1.step hB; replace N2 := N2.step hB) | (replace X0 := X0.drew.step hB; replace HB := HB.drew.trans (hB.mono HB.size); replace N1 := N1.drew.step hB; replace N2 := N2.drew.step hB)); clear hB)
          | (go_at_call 56; refine (cmp_any s2 s5 o2 o5 n2 n5 c2 c5 8 d2 d5 _ _ _ N2 (num_more N5 (by omega)) (by omega)).mono ?_; rintro e w4 ⟨rfl, hB⟩; (first | (replace X0 := X0.step hB; replace HB := HB.trans (hB.mono HB.size); replace N1 := N1.step hB; replace N2 := N2.step hB) | (replace X0 := X0.drew.step hB; replace HB := HB.drew.trans (hB.mono HB.size); replace N1 := N1.drew.step hB; replace N2 := N2.drew.step hB)); clear hB N5))
      all_goals go_wp2_with fail
      all_goals go_meet
      all_goals exact ⟨by rw [show (cmpI y 1 == 0) = decide (y = 1) from cmp_one y], X0, HB, N1, N2⟩
    case rest =>
      clear X0 HB N1 N2
      obtain ⟨hp, X0, HB, N1, N2⟩ := hcut
      subst hp
      generalize wc = W2 at *
      rename_i hk
      refine hk _ _ ?_
      clear hk
      obtain ⟨c0, c1', c2', c3⟩ := X0.cs4
      by_cases h1 : y = 1
      · have HO : Hid (raL x y = txL x) := by show _ = _; unfold raL; rw [h1, unL_one, List.append_nil]
        rw [decide_eq_true h1]
        clear h1
        go_wp2_with fail
        refine (l1Text_any s1 o1 n1 c1 d1 x 8 _ N1 (by omega)).mono ?_
        rintro e w5 ⟨rfl, hB⟩
        have HB2 := HB.trans (hB.mono HB.size)
        clear hB X0 HB N1 N2
        go_wp2
        go_ret
        exact ⟨by rw [HO.out]; rfl, HB2⟩
      · have hcat : Hid (txS x ++ ⟨#[47]⟩ ++ txS y = strL (raL x y)) := by
          show _ = _
          unfold raL
          rw [unL_not h1, strL_append, show (47 :: txL y) = [47] ++ txL y from rfl, strL_append, ← ByteArray.append_assoc]
          rfl
        have hsz1 : (txS x ++ ⟨#[47]⟩).size = (txS x).size + 1 := by rw [ByteArray.size_append]; rfl
        have r1 : ¬ (9223372036854775807 < (txS x).size + 1) := by omega
        have r2 : ¬ (9223372036854775807 < (txS x).size + 1 + (txS y).size) := by omega
        have q2 : ¬ (9223372036854775807 < (txS x ++ ⟨#[47]⟩).size + (txS y).size) := by omega
        have tok1 : True := trivial
        rw [decide_eq_false h1]
        clear h1 c0 c1' c2' c3
        go_upto_region 6 with fail
        go_region_held3 (fun w' => w'.cell? ⟨g, 0, none⟩ = some (.bool s1) ∧ w'.cell? ⟨g, 1, none⟩ = some (.slice o1 n1 c1) ∧ w'.cell? ⟨g, 2, none⟩ = some (.bool s2) ∧ w'.cell? ⟨g, 3, none⟩ = some (.slice o2 n2 c2)) (first | (with_reducible exact X0.cs4) | (with_reducible exact X0.drew.cs4))
          (first
            | (go_at_call 42; have _t := tok1; refine (l1Text_any s1 o1 n1 c1 d1 x 8 _ (by first | (with_reducible exact N1) | (with_reducible exact N1.drew)) (by omega)).mono ?_; rintro e w5 ⟨rfl, hB⟩; (first | (replace X0 := X0.step hB; replace HB := HB.trans (hB.mono HB.size); replace N1 := N1.step hB; replace N2 := N2.step hB) | (replace X0 := X0.drew.step hB; replace HB := HB.drew.trans (hB.mono HB.size); replace N1 := N1.drew.step hB; replace N2 := N2.drew.step hB)); clear hB tok1 _t)
            | (go_at_call 42; refine (l1Text_any s2 o2 n2 c2 d2 y 8 _ (by first | (with_reducible exact N2) | (with_reducible exact N2.drew)) (by omega)).mono ?_; rintro e w6 ⟨rfl, hB⟩; (first | (replace X0 := X0.step hB; replace HB := HB.trans (hB.mono HB.size); replace N1 := N1.step hB; replace N2 := N2.step hB) | (replace X0 := X0.drew.step hB; replace HB := HB.drew.trans (hB.mono HB.size); replace N1 := N1.drew.step hB; replace N2 := N2.drew.step hB)); clear hB))
        all_goals go_wp2
        all_goals go_ret
        all_goals exact ⟨by rw [← hcat.out]; rfl, by first | exact HB | exact HB.drew⟩
end Go.Proofs.Ytnnojeggjnddpaa
