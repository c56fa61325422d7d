/- Part 15 of the walks that the proof leans on. -/
import Derived.Test.YtgeaklaocifhcaaFr14
/- Fractions drawn from a code. -/
namespace Go.Proofs.Ytgeaklaocifhcaa
open Go.RowKit
set_option maxRecDepth 100000 in
set_option maxHeartbeats 1000000 in
theorem near_m20 (g : Nat) (ao : Option Addr) (n cap : Nat) (cs : List Int) (w : World) (h : Rdr w g ao n cap cs) :
    Calls Try.prog 45 #[.pointer (some ⟨g, 0, none⟩), .int .i64 (-20), .int .i64 20] w (RdP g ao n cap cs (IsIn (-20) 21) w) := by
  go_enter Try.func45, Try.ntmps45
  go_wp2_with fail
  refine (below_any 8 (by decide) (by decide) g ao n cap cs _ h).mono ?_
  rintro e w1 ⟨_, rfl, ⟨x, rfl, x0, x1⟩, R, K⟩
  clear h
  by_cases h0 : x = 0
  · subst h0
    go_wp2
    go_ret
    exact ⟨_, rfl, ⟨_, rfl, by decide, by decide⟩, R, K⟩
  · by_cases h1 : x = 1
    · subst h1
      go_wp2
      go_ret
      exact ⟨_, rfl, ⟨_, rfl, by decide, by decide⟩, R, K⟩
    · have e0 : (x == 0) = false := by simpa using h0
      have e1 : (x == 1) = false := by simpa using h1
      go_wp2_with fail
      refine (word_any g ao n cap cs _ R).mono ?_
      rintro e w2 ⟨_, rfl, ⟨y, rfl, y0, y1⟩, R2, K2⟩
      replace K := K.trans K2
      clear R K2
      have hw : IntKind.u64.wrap 41 = 41 := by rw [IntKind.wrap_u64]; decide
      go_wp2
      go_ret
      exact ⟨_, rfl, ⟨_, rfl, by omega, by omega⟩, R2, K⟩
set_option maxRecDepth 100000 in
set_option maxHeartbeats 1000000 in
theorem near_p11 (g : Nat) (ao : Option Addr) (n cap : Nat) (cs : List Int) (w : World) (h : Rdr w g ao n cap cs) :
    Calls Try.prog 45 #[.pointer (some ⟨g, 0, none⟩), .int .i64 0, .int .i64 11] w (RdP g ao n cap cs (IsIn 0 12) w) := by
  go_enter Try.func45, Try.ntmps45
  go_wp2_with fail
  refine (below_any 8 (by decide) (by decide) g ao n cap cs _ h).mono ?_
  rintro e w1 ⟨_, rfl, ⟨x, rfl, x0, x1⟩, R, K⟩
  clear h
  by_cases h0 : x = 0
  · subst h0
    go_wp2
    go_ret
    exact ⟨_, rfl, ⟨_, rfl, by decide, by decide⟩, R, K⟩
  · by_cases h1 : x = 1
    · subst h1
      go_wp2
      go_ret
      exact ⟨_, rfl, ⟨_, rfl, by decide, by decide⟩, R, K⟩
    · have e0 : (x == 0) = false := by simpa using h0
      have e1 : (x == 1) = false := by simpa using h1
      go_wp2_with fail
      refine (word_any g ao n cap cs _ R).mono ?_
      rintro e w2 ⟨_, rfl, ⟨y, rfl, y0, y1⟩, R2, K2⟩
      replace K := K.trans K2
      clear R K2
      have hw : IntKind.u64.wrap 12 = 12 := by rw [IntKind.wrap_u64]; decide
      go_wp2
      go_ret
      exact ⟨_, rfl, ⟨_, rfl, by omega, by omega⟩, R2, K⟩
theorem told_i {x : Int} (h0 : -100 ≤ x) (h1 : x ≤ 100) : told x = true := by
  unfold told
  exact decide_eq_true ⟨by omega, by omega⟩
theorem wideW4 {v : Value} (h : IsWide v) : ∃ x : Int, v = W4 x ∧ told x = true := by
  obtain ⟨a3, a2, a1, a0, rfl, h3, h2, h1, h0⟩ := h
  obtain ⟨f3, f2, f1, f0⟩ := wd_of h3 h2 h1 h0 rfl
  have ht : told (sw a3 a2 a1 a0) = true := by
    unfold told
    exact decide_eq_true (sw_bound h3 h2 h1 h0)
  exact ⟨sw a3 a2 a1 a0, by show _ = Value.agg _; rw [← f3, ← f2, ← f1, ← f0], ht⟩
theorem ofS_det (n d : Int) (hn : told n = true) (hd : told d = true) (w : World) : Calls Try.prog 43 #[W4 n, W4 d] w (VP (ratV n d) w) := by
  obtain ⟨a3, a2, a1, a0⟩ := ww_words n
  obtain ⟨b3, b2, b1, b0⟩ := ww_words d
  have h := specRatioOf_any (ww3 n) (ww2 n) (ww1 n) (ww0 n) (ww3 d) (ww2 d) (ww1 d) (ww0 d) a3 a2 a1 a0 b3 b2 b1 b0 w
  rw [ww_sw hn, ww_sw hd] at h
  exact h
theorem ofW_spec (n : Int) (w : World) (h0 : -9223372036854775808 ≤ n) (h1 : n ≤ 9223372036854775807) : Calls Try.prog 44 #[.int .i64 n] w (VP (W4 n) w) := by
  refine (specOf_any n w h0 h1).mono ?_
  rintro e w' ⟨a3, a2, a1, a0, rfl, g3, g2, g1, g0, hs, hB⟩
  obtain ⟨rfl, rfl, rfl, rfl⟩ := wd_of g3 g2 g1 g0 hs
  exact ⟨rfl, hB⟩
/-- A fraction, whatever its numbers. -/
def IsRt (v : Value) : Prop := ∃ x y : Int, v = RZ x y ∧ told x = true ∧ told y = true
theorem rdr_set8 {W : World} {g gx : Nat} {ao : Option Addr} {n cap : Nat} {cs : List Int} {v0 v1 v2 v3 v4 v5 v6 v7 : Value} (hx : g < gx) (R : Rdr W g ao n cap cs) : Rdr ((((((((W.setCell ⟨gx, 0, none⟩ v0).setCell ⟨gx, 1, none⟩ v1).setCell ⟨gx, 2, none⟩ v2).setCell ⟨gx, 3, none⟩ v3).setCell ⟨gx, 4, none⟩ v4).setCell ⟨gx, 5, none⟩ v5).setCell ⟨gx, 6, none⟩ v6).setCell ⟨gx, 7, none⟩ v7) g ao n cap cs := by
  repeat' (refine Rdr.setN ?_ (by exact hx) _)
  exact R
theorem kept_set8 {w W : World} {g gx : Nat} {v0 v1 v2 v3 v4 v5 v6 v7 : Value} (hm : w.heap.size ≤ gx) (hx : gx ≠ g) (K : Kept g w W) : Kept g w ((((((((W.setCell ⟨gx, 0, none⟩ v0).setCell ⟨gx, 1, none⟩ v1).setCell ⟨gx, 2, none⟩ v2).setCell ⟨gx, 3, none⟩ v3).setCell ⟨gx, 4, none⟩ v4).setCell ⟨gx, 5, none⟩ v5).setCell ⟨gx, 6, none⟩ v6).setCell ⟨gx, 7, none⟩ v7) := by
  repeat' (refine Kept.setN ?_ (by exact hm) (by exact hx.symm) _)
  exact K
theorem rt_done {w W : World} {g : Nat} {ao : Option Addr} {n cap : Nat} {cs : List Int} {a b : Int} (hg : g < w.heap.size) (R : Rdr W g ao n cap cs) (K : Kept g w W) (ta : told a = true) (tb : told b = true) {v0 v1 v2 v3 v4 v5 v6 v7 : Value} :
    RdP g ao n cap cs IsRt w (.returned (RZ a b)) ((((((((W.setCell ⟨w.heap.size, 0, none⟩ v0).setCell ⟨w.heap.size, 1, none⟩ v1).setCell ⟨w.heap.size, 2, none⟩ v2).setCell ⟨w.heap.size, 3, none⟩ v3).setCell ⟨w.heap.size, 4, none⟩ v4).setCell ⟨w.heap.size, 5, none⟩ v5).setCell ⟨w.heap.size, 6, none⟩ v6).setCell ⟨w.heap.size, 7, none⟩ v7) :=
  ⟨_, rfl, ⟨a, b, rfl, ta, tb⟩, rdr_set8 hg R, kept_set8 (Nat.le_refl _) (by omega) K⟩
set_option maxRecDepth 100000 in
set_option maxHeartbeats 4000000 in
theorem ratio_any (g : Nat) (ao : Option Addr) (n cap : Nat) (cs : List Int) (w : World) (h : Rdr w g ao n cap cs) :
    Calls Try.prog 21 #[.pointer (some ⟨g, 0, none⟩)] w (RdP g ao n cap cs IsRt w) := by
  have hg := h.lt
  have hne : w.heap.size ≠ g := by omega
  have B := Blk.new w [.int .u64 0, .int .u64 0, .int .u64 0, .int .u64 0, .int .u64 0, .int .u64 0, .int .u64 0, .int .u64 0] 28 rfl
  have R := h.alloc (.cells #[.int .u64 0, .int .u64 0, .int .u64 0, .int .u64 0, .int .u64 0, .int .u64 0, .int .u64 0, .int .u64 0] 28)
  have K := (Kept.refl g w).alloc (.cells #[.int .u64 0, .int .u64 0, .int .u64 0, .int .u64 0, .int .u64 0, .int .u64 0, .int .u64 0, .int .u64 0] 28)
  have SO := fun n w h0 h1 => ofW_spec n w h0 h1
  clear h
  go_enter Try.func21, Try.ntmps21
  go_wp2_with fail
  refine (once_any 12 (by decide) (by decide) g ao n cap cs _ R).mono ?_
  rintro e w1 ⟨_, rfl, ⟨bb, rfl⟩, R1, K1⟩
  replace B := B.kept K1 hne
  replace K := K.trans K1
  clear R K1
  have R := R1
  clear R1
  cases bb
  · skip
    go_wp2_with fail
    refine (wide_any g ao n cap cs _ R).mono ?_
    rintro e w2 ⟨_, rfl, hv, R1, K1⟩
    replace B := B.kept K1 hne
    replace K := K.trans K1
    clear R K1
    have R := R1
    clear R1
    obtain ⟨x, rfl, tx⟩ := wideW4 hv
    clear hv
    go_wp2_with fail
    refine (wide_any g ao n cap cs _ R).mono ?_
    rintro e w3 ⟨_, rfl, hv, R1, K1⟩
    replace B := B.kept K1 hne
    replace K := K.trans K1
    clear R K1
    have R := R1
    clear R1
    obtain ⟨y, rfl, ty⟩ := wideW4 hv
    clear hv
    have RO := ofS_det x y tx ty
    obtain ⟨a, b, ff, hro, ta, tb, -⟩ := ratV_rz x y
    rw [hro] at RO
    clear hro tx ty
    go_wp2_with fail
    refine (RO _).mono ?_
    rintro e w4 ⟨rfl, hB⟩
    have hx4 := (B.step hB).lt
    replace R := (R.step hB).alloc (.cells #[.int .u64 (ww3 a), .int .u64 (ww2 a), .int .u64 (ww1 a), .int .u64 (ww0 a), .int .u64 (ww3 b), .int .u64 (ww2 b), .int .u64 (ww1 b), .int .u64 (ww0 b)] 28); replace B := (B.step hB).alloc (.cells #[.int .u64 (ww3 a), .int .u64 (ww2 a), .int .u64 (ww1 a), .int .u64 (ww0 a), .int .u64 (ww3 b), .int .u64 (ww2 b), .int .u64 (ww1 b), .int .u64 (ww0 b)] 28); replace K := (K.trans (Kept.of hB)).alloc (.cells #[.int .u64 (ww3 a), .int .u64 (ww2 a), .int .u64 (ww1 a), .int .u64 (ww0 a), .int .u64 (ww3 b), .int .u64 (ww2 b), .int .u64 (ww1 b), .int .u64 (ww0 b)] 28)
    have X := Blk.new w4 [.int .u64 (ww3 a), .int .u64 (ww2 a), .int .u64 (ww1 a), .int .u64 (ww0 a), .int .u64 (ww3 b), .int .u64 (ww2 b), .int .u64 (ww1 b), .int .u64 (ww0 b)] 28 rfl
    have hxl : g < w4.heap.size := by omega
    have hxm : w.heap.size ≤ w4.heap.size := by omega
    have hxg : w4.heap.size ≠ g := by omega
    have hxb : w.heap.size ≠ w4.heap.size := by omega
    clear hB RO
    cases ff
    · go_wp2_with fail
      generalize w4.alloc (.cells #[.int .u64 (ww3 a), .int .u64 (ww2 a), .int .u64 (ww1 a), .int .u64 (ww0 a), .int .u64 (ww3 b), .int .u64 (ww2 b), .int .u64 (ww1 b), .int .u64 (ww0 b)] 28) = W4' at *
      generalize w4.heap.size = gx at *
      go_wp2_with fail
      refine (near_m20 g ao n cap cs _ R).mono ?_
      rintro e p1 ⟨_, rfl, ⟨na, rfl, na0, na1⟩, R1, K1⟩
      replace B := B.kept K1 hne
      replace X := X.kept K1 hxg
      replace K := K.trans K1
      clear R K1
      have R := R1
      clear R1
      go_wp2_with fail
      refine (SO na _ (by omega) (by omega)).mono ?_
      rintro e q1 ⟨rfl, hB⟩
      replace R := R.step hB; replace B := B.step hB; replace X := X.step hB; replace K := K.trans (Kept.of hB)
      clear hB
      go_wp2_with fail
      refine (near_p11 g ao n cap cs _ R).mono ?_
      rintro e r1 ⟨_, rfl, ⟨nb, rfl, nb0, nb1⟩, R1, K1⟩
      replace B := B.kept K1 hne
      replace X := X.kept K1 hxg
      replace K := K.trans K1
      clear R K1
      have R := R1
      clear R1
      have hw1 : wrap64 (1 + nb) = 1 + nb := by unfold wrap64; omega
      go_wp2_with fail
      refine (SO (1 + nb) _ (by omega) (by omega)).mono ?_
      rintro e s1 ⟨rfl, hB⟩
      replace R := R.step hB; replace B := B.step hB; replace X := X.step hB; replace K := K.trans (Kept.of hB)
      clear hB hw1
      have RO := ofS_det na (1 + nb) (told_i (by omega) (by omega)) (told_i (by omega) (by omega))
      obtain ⟨c, d, f', hro, tc, td, -⟩ := ratV_rz na (1 + nb)
      rw [hro] at RO
      clear hro
      go_wp2_with fail
      refine (RO _).mono ?_
      rintro e t1 ⟨rfl, hB⟩
      replace R := R.step hB; replace B := B.step hB; replace X := X.step hB; replace K := K.trans (Kept.of hB)
      clear hB RO SO
      have oc0 := B.c 0 rfl; have of0 := B.f 0 rfl; have oc1 := B.c 1 rfl; have of1 := B.f 1 rfl; have oc2 := B.c 2 rfl; have of2 := B.f 2 rfl; have oc3 := B.c 3 rfl; have of3 := B.f 3 rfl; have oc4 := B.c 4 rfl; have of4 := B.f 4 rfl; have oc5 := B.c 5 rfl; have of5 := B.f 5 rfl; have oc6 := B.c 6 rfl; have of6 := B.f 6 rfl; have oc7 := B.c 7 rfl; have of7 := B.f 7 rfl; have ol := B.lt; have ac0 := X.c 0 rfl; have af0 := X.f 0 rfl; have ac1 := X.c 1 rfl; have af1 := X.f 1 rfl; have ac2 := X.c 2 rfl; have af2 := X.f 2 rfl; have ac3 := X.c 3 rfl; have af3 := X.f 3 rfl; have ac4 := X.c 4 rfl; have af4 := X.f 4 rfl; have ac5 := X.c 5 rfl; have af5 := X.f 5 rfl; have ac6 := X.c 6 rfl; have af6 := X.f 6 rfl; have ac7 := X.c 7 rfl; have af7 := X.f 7 rfl; have al := X.lt
      go_upto_region 6 with fail
      clear oc0 of0 ac0 af0 oc1 of1 ac1 af1 oc2 of2 ac2 af2 oc3 of3 ac3 af3 oc4 of4 ac4 af4 oc5 of5 ac5 af5 oc6 of6 ac6 af6 oc7 of7 ac7 af7 ol al
      replace X := X.stored8 (.int .u64 (ww3 c)) (.int .u64 (ww2 c)) (.int .u64 (ww1 c)) (.int .u64 (ww0 c)) (.int .u64 (ww3 d)) (.int .u64 (ww2 d)) (.int .u64 (ww1 d)) (.int .u64 (ww0 d))
      replace B := B.set8 (g := gx) (v0 := .int .u64 (ww3 c)) (v1 := .int .u64 (ww2 c)) (v2 := .int .u64 (ww1 c)) (v3 := .int .u64 (ww0 c)) (v4 := .int .u64 (ww3 d)) (v5 := .int .u64 (ww2 d)) (v6 := .int .u64 (ww1 d)) (v7 := .int .u64 (ww0 d)) (by omega)
      replace R := rdr_set8 (v0 := .int .u64 (ww3 c)) (v1 := .int .u64 (ww2 c)) (v2 := .int .u64 (ww1 c)) (v3 := .int .u64 (ww0 c)) (v4 := .int .u64 (ww3 d)) (v5 := .int .u64 (ww2 d)) (v6 := .int .u64 (ww1 d)) (v7 := .int .u64 (ww0 d)) hxl R
      replace K := kept_set8 (v0 := .int .u64 (ww3 c)) (v1 := .int .u64 (ww2 c)) (v2 := .int .u64 (ww1 c)) (v3 := .int .u64 (ww0 c)) (v4 := .int .u64 (ww3 d)) (v5 := .int .u64 (ww2 d)) (v6 := .int .u64 (ww1 d)) (v7 := .int .u64 (ww0 d)) hxm hxg K
      generalize ((((((((t1.setCell ⟨gx, 0, none⟩ (.int .u64 (ww3 c))).setCell ⟨gx, 1, none⟩ (.int .u64 (ww2 c))).setCell ⟨gx, 2, none⟩ (.int .u64 (ww1 c))).setCell ⟨gx, 3, none⟩ (.int .u64 (ww0 c))).setCell ⟨gx, 4, none⟩ (.int .u64 (ww3 d))).setCell ⟨gx, 5, none⟩ (.int .u64 (ww2 d))).setCell ⟨gx, 6, none⟩ (.int .u64 (ww1 d))).setCell ⟨gx, 7, none⟩ (.int .u64 (ww0 d))) = WS at *
      have oc0 := B.c 0 rfl; have of0 := B.f 0 rfl; have oc1 := B.c 1 rfl; have of1 := B.f 1 rfl; have oc2 := B.c 2 rfl; have of2 := B.f 2 rfl; have oc3 := B.c 3 rfl; have of3 := B.f 3 rfl; have oc4 := B.c 4 rfl; have of4 := B.f 4 rfl; have oc5 := B.c 5 rfl; have of5 := B.f 5 rfl; have oc6 := B.c 6 rfl; have of6 := B.f 6 rfl; have oc7 := B.c 7 rfl; have of7 := B.f 7 rfl; have ol := B.lt; have ac0 := X.c 0 rfl; have af0 := X.f 0 rfl; have ac1 := X.c 1 rfl; have af1 := X.f 1 rfl; have ac2 := X.c 2 rfl; have af2 := X.f 2 rfl; have ac3 := X.c 3 rfl; have af3 := X.f 3 rfl; have ac4 := X.c 4 rfl; have af4 := X.f 4 rfl; have ac5 := X.c 5 rfl; have af5 := X.f 5 rfl; have ac6 := X.c 6 rfl; have af6 := X.f 6 rfl; have ac7 := X.c 7 rfl; have af7 := X.f 7 rfl; have al := X.lt
      clear B X
      go_wp2
      refine bodyPost_ret (v := RZ c d) (by simp [results, Try.results21, go_sem, oc0, oc1, oc2, oc3, oc4, oc5, oc6, oc7]) rfl ?_
      exact rt_done hg R K tc td
    · go_wp2_with fail
      generalize w4.alloc (.cells #[.int .u64 (ww3 a), .int .u64 (ww2 a), .int .u64 (ww1 a), .int .u64 (ww0 a), .int .u64 (ww3 b), .int .u64 (ww2 b), .int .u64 (ww1 b), .int .u64 (ww0 b)] 28) = W4' at *
      generalize w4.heap.size = gx at *
      refine (once_any 2 (by decide) (by decide) g ao n cap cs _ R).mono ?_
      rintro e w5 ⟨_, rfl, ⟨bb, rfl⟩, R1, K1⟩
      replace B := B.kept K1 hne
      replace X := X.kept K1 hxg
      replace K := K.trans K1
      clear R K1
      have R := R1
      clear R1
      cases bb
      · clear SO
        have oc0 := B.c 0 rfl; have of0 := B.f 0 rfl; have oc1 := B.c 1 rfl; have of1 := B.f 1 rfl; have oc2 := B.c 2 rfl; have of2 := B.f 2 rfl; have oc3 := B.c 3 rfl; have of3 := B.f 3 rfl; have oc4 := B.c 4 rfl; have of4 := B.f 4 rfl; have oc5 := B.c 5 rfl; have of5 := B.f 5 rfl; have oc6 := B.c 6 rfl; have of6 := B.f 6 rfl; have oc7 := B.c 7 rfl; have of7 := B.f 7 rfl; have ol := B.lt; have ac0 := X.c 0 rfl; have af0 := X.f 0 rfl; have ac1 := X.c 1 rfl; have af1 := X.f 1 rfl; have ac2 := X.c 2 rfl; have af2 := X.f 2 rfl; have ac3 := X.c 3 rfl; have af3 := X.f 3 rfl; have ac4 := X.c 4 rfl; have af4 := X.f 4 rfl; have ac5 := X.c 5 rfl; have af5 := X.f 5 rfl; have ac6 := X.c 6 rfl; have af6 := X.f 6 rfl; have ac7 := X.c 7 rfl; have af7 := X.f 7 rfl; have al := X.lt
        clear B X
        go_wp2
        refine bodyPost_ret (v := RZ a b) (by simp [results, Try.results21, go_sem, oc0, oc1, oc2, oc3, oc4, oc5, oc6, oc7]) rfl ?_
        exact rt_done hg (by first | exact R | exact R.drew) (by first | exact K | exact K.drew) ta tb
      · skip
        go_wp2_with fail
        refine (near_m20 g ao n cap cs _ R).mono ?_
        rintro e p2 ⟨_, rfl, ⟨na, rfl, na0, na1⟩, R1, K1⟩
        replace B := B.kept K1 hne
        replace X := X.kept K1 hxg
        replace K := K.trans K1
        clear R K1
        have R := R1
        clear R1
        go_wp2_with fail
        refine (SO na _ (by omega) (by omega)).mono ?_
        rintro e q2 ⟨rfl, hB⟩
        replace R := R.step hB; replace B := B.step hB; replace X := X.step hB; replace K := K.trans (Kept.of hB)
        clear hB
        go_wp2_with fail
        refine (near_p11 g ao n cap cs _ R).mono ?_
        rintro e r2 ⟨_, rfl, ⟨nb, rfl, nb0, nb1⟩, R1, K1⟩
        replace B := B.kept K1 hne
        replace X := X.kept K1 hxg
        replace K := K.trans K1
        clear R K1
        have R := R1
        clear R1
        have hw1 : wrap64 (1 + nb) = 1 + nb := by unfold wrap64; omega
        go_wp2_with fail
        refine (SO (1 + nb) _ (by omega) (by omega)).mono ?_
        rintro e s2 ⟨rfl, hB⟩
        replace R := R.step hB; replace B := B.step hB; replace X := X.step hB; replace K := K.trans (Kept.of hB)
        clear hB hw1
        have RO := ofS_det na (1 + nb) (told_i (by omega) (by omega)) (told_i (by omega) (by omega))
        obtain ⟨c, d, f', hro, tc, td, -⟩ := ratV_rz na (1 + nb)
        rw [hro] at RO
        clear hro
        go_wp2_with fail
        refine (RO _).mono ?_
        rintro e t2 ⟨rfl, hB⟩
        replace R := R.step hB; replace B := B.step hB; replace X := X.step hB; replace K := K.trans (Kept.of hB)
        clear hB RO SO
        have oc0 := B.c 0 rfl; have of0 := B.f 0 rfl; have oc1 := B.c 1 rfl; have of1 := B.f 1 rfl; have oc2 := B.c 2 rfl; have of2 := B.f 2 rfl; have oc3 := B.c 3 rfl; have of3 := B.f 3 rfl; have oc4 := B.c 4 rfl; have of4 := B.f 4 rfl; have oc5 := B.c 5 rfl; have of5 := B.f 5 rfl; have oc6 := B.c 6 rfl; have of6 := B.f 6 rfl; have oc7 := B.c 7 rfl; have of7 := B.f 7 rfl; have ol := B.lt; have ac0 := X.c 0 rfl; have af0 := X.f 0 rfl; have ac1 := X.c 1 rfl; have af1 := X.f 1 rfl; have ac2 := X.c 2 rfl; have af2 := X.f 2 rfl; have ac3 := X.c 3 rfl; have af3 := X.f 3 rfl; have ac4 := X.c 4 rfl; have af4 := X.f 4 rfl; have ac5 := X.c 5 rfl; have af5 := X.f 5 rfl; have ac6 := X.c 6 rfl; have af6 := X.f 6 rfl; have ac7 := X.c 7 rfl; have af7 := X.f 7 rfl; have al := X.lt
        go_upto_region 6 with fail
        clear oc0 of0 ac0 af0 oc1 of1 ac1 af1 oc2 of2 ac2 af2 oc3 of3 ac3 af3 oc4 of4 ac4 af4 oc5 of5 ac5 af5 oc6 of6 ac6 af6 oc7 of7 ac7 af7 ol al
        replace X := X.stored8 (.int .u64 (ww3 c)) (.int .u64 (ww2 c)) (.int .u64 (ww1 c)) (.int .u64 (ww0 c)) (.int .u64 (ww3 d)) (.int .u64 (ww2 d)) (.int .u64 (ww1 d)) (.int .u64 (ww0 d))
        replace B := B.set8 (g := gx) (v0 := .int .u64 (ww3 c)) (v1 := .int .u64 (ww2 c)) (v2 := .int .u64 (ww1 c)) (v3 := .int .u64 (ww0 c)) (v4 := .int .u64 (ww3 d)) (v5 := .int .u64 (ww2 d)) (v6 := .int .u64 (ww1 d)) (v7 := .int .u64 (ww0 d)) (by omega)
        replace R := rdr_set8 (v0 := .int .u64 (ww3 c)) (v1 := .int .u64 (ww2 c)) (v2 := .int .u64 (ww1 c)) (v3 := .int .u64 (ww0 c)) (v4 := .int .u64 (ww3 d)) (v5 := .int .u64 (ww2 d)) (v6 := .int .u64 (ww1 d)) (v7 := .int .u64 (ww0 d)) hxl R
        replace K := kept_set8 (v0 := .int .u64 (ww3 c)) (v1 := .int .u64 (ww2 c)) (v2 := .int .u64 (ww1 c)) (v3 := .int .u64 (ww0 c)) (v4 := .int .u64 (ww3 d)) (v5 := .int .u64 (ww2 d)) (v6 := .int .u64 (ww1 d)) (v7 := .int .u64 (ww0 d)) hxm hxg K
        generalize ((((((((t2.setCell ⟨gx, 0, none⟩ (.int .u64 (ww3 c))).setCell ⟨gx, 1, none⟩ (.int .u64 (ww2 c))).setCell ⟨gx, 2, none⟩ (.int .u64 (ww1 c))).setCell ⟨gx, 3, none⟩ (.int .u64 (ww0 c))).setCell ⟨gx, 4, none⟩ (.int .u64 (ww3 d))).setCell ⟨gx, 5, none⟩ (.int .u64 (ww2 d))).setCell ⟨gx, 6, none⟩ (.int .u64 (ww1 d))).setCell ⟨gx, 7, none⟩ (.int .u64 (ww0 d))) = WS at *
        have oc0 := B.c 0 rfl; have of0 := B.f 0 rfl; have oc1 := B.c 1 rfl; have of1 := B.f 1 rfl; have oc2 := B.c 2 rfl; have of2 := B.f 2 rfl; have oc3 := B.c 3 rfl; have of3 := B.f 3 rfl; have oc4 := B.c 4 rfl; have of4 := B.f 4 rfl; have oc5 := B.c 5 rfl; have of5 := B.f 5 rfl; have oc6 := B.c 6 rfl; have of6 := B.f 6 rfl; have oc7 := B.c 7 rfl; have of7 := B.f 7 rfl; have ol := B.lt; have ac0 := X.c 0 rfl; have af0 := X.f 0 rfl; have ac1 := X.c 1 rfl; have af1 := X.f 1 rfl; have ac2 := X.c 2 rfl; have af2 := X.f 2 rfl; have ac3 := X.c 3 rfl; have af3 := X.f 3 rfl; have ac4 := X.c 4 rfl; have af4 := X.f 4 rfl; have ac5 := X.c 5 rfl; have af5 := X.f 5 rfl; have ac6 := X.c 6 rfl; have af6 := X.f 6 rfl; have ac7 := X.c 7 rfl; have af7 := X.f 7 rfl; have al := X.lt
        clear B X
        go_wp2
        refine bodyPost_ret (v := RZ c d) (by simp [results, Try.results21, go_sem, oc0, oc1, oc2, oc3, oc4, oc5, oc6, oc7]) rfl ?_
        exact rt_done hg R K tc td
  · clear SO
    go_wp2_with fail
    refine (wide_any g ao n cap cs _ R).mono ?_
    rintro e w2 ⟨_, rfl, hv, R1, K1⟩
    replace B := B.kept K1 hne
    replace K := K.trans K1
    clear R K1
    have R := R1
    clear R1
    obtain ⟨x, rfl, tx⟩ := wideW4 hv
    clear hv
    go_wp2_with fail
    refine (wide_any g ao n cap cs _ R).mono ?_
    rintro e w3 ⟨_, rfl, hv, R1, K1⟩
    replace B := B.kept K1 hne
    replace K := K.trans K1
    clear R K1
    have R := R1
    clear R1
    obtain ⟨y, rfl, ty⟩ := wideW4 hv
    clear hv
    have oc0 := B.c 0 rfl; have of0 := B.f 0 rfl; have oc1 := B.c 1 rfl; have of1 := B.f 1 rfl; have oc2 := B.c 2 rfl; have of2 := B.f 2 rfl; have oc3 := B.c 3 rfl; have of3 := B.f 3 rfl; have oc4 := B.c 4 rfl; have of4 := B.f 4 rfl; have oc5 := B.c 5 rfl; have of5 := B.f 5 rfl; have oc6 := B.c 6 rfl; have of6 := B.f 6 rfl; have oc7 := B.c 7 rfl; have of7 := B.f 7 rfl; have ol := B.lt
    clear B
    go_wp2
    refine bodyPost_ret (v := RZ x y) (by simp [results, Try.results21, go_sem, oc0, oc1, oc2, oc3, oc4, oc5, oc6, oc7]) rfl ?_
    exact rt_done hg (by first | exact R | exact R.drew) (by first | exact K | exact K.drew) tx ty
end Go.Proofs.Ytgeaklaocifhcaa

/- Two fractions drawn from a code. -/
namespace Go.Proofs.Ytgeaklaocifhcaa
open Go.RowKit
/-- Two fractions, whatever their numbers. -/
def TwoR (w : World) (e : Ending) (w' : World) : Prop := ∃ x y u v : Int, e = .returned (.tuple #[RZ x y, RZ u v]) ∧ told x = true ∧ told y = true ∧ told u = true ∧ told v = true ∧ Below w.heap.size w w'
theorem rd_cells {x y : Int} {W : World} {gp : Nat} (Xp : Blk W gp [.int .u64 (ww3 x), .int .u64 (ww2 x), .int .u64 (ww1 x), .int .u64 (ww0 x), .int .u64 (ww3 y), .int .u64 (ww2 y), .int .u64 (ww1 y), .int .u64 (ww0 y)]) : (fun w' => w'.cell? ⟨gp, 0, none⟩ = some (.int .u64 (ww3 x)) ∧ w'.cell? ⟨gp, 1, none⟩ = some (.int .u64 (ww2 x)) ∧ w'.cell? ⟨gp, 2, none⟩ = some (.int .u64 (ww1 x)) ∧ w'.cell? ⟨gp, 3, none⟩ = some (.int .u64 (ww0 x)) ∧ w'.cell? ⟨gp, 4, none⟩ = some (.int .u64 (ww3 y)) ∧ w'.cell? ⟨gp, 5, none⟩ = some (.int .u64 (ww2 y)) ∧ w'.cell? ⟨gp, 6, none⟩ = some (.int .u64 (ww1 y)) ∧ w'.cell? ⟨gp, 7, none⟩ = some (.int .u64 (ww0 y))) W := ⟨Xp.c 0 rfl, Xp.c 1 rfl, Xp.c 2 rfl, Xp.c 3 rfl, Xp.c 4 rfl, Xp.c 5 rfl, Xp.c 6 rfl, Xp.c 7 rfl⟩
set_option maxRecDepth 100000 in
set_option maxHeartbeats 4000000 in
theorem drawRatioAdd_any (ao : Option Addr) (n cap : Nat) (cs : List Int) (w : World) (h : Code w ao n cs) :
    Calls Try.prog 6 #[.slice ao n cap] w (TwoR w) := by
  have B0 := (Blk.new w [.int .u64 0, .int .u64 0, .int .u64 0, .int .u64 0, .int .u64 0, .int .u64 0, .int .u64 0, .int .u64 0] 28 rfl).alloc (.cells #[.int .u64 0, .int .u64 0, .int .u64 0, .int .u64 0, .int .u64 0, .int .u64 0, .int .u64 0, .int .u64 0] 28)
  have B1 := Blk.new (w.alloc (.cells #[.int .u64 0, .int .u64 0, .int .u64 0, .int .u64 0, .int .u64 0, .int .u64 0, .int .u64 0, .int .u64 0] 28)) [.int .u64 0, .int .u64 0, .int .u64 0, .int .u64 0, .int .u64 0, .int .u64 0, .int .u64 0, .int .u64 0] 28 (g := w.heap.size + 1) (by simp)
  have HB : Below w.heap.size w ((w.alloc (.cells #[.int .u64 0, .int .u64 0, .int .u64 0, .int .u64 0, .int .u64 0, .int .u64 0, .int .u64 0, .int .u64 0] 28)).alloc (.cells #[.int .u64 0, .int .u64 0, .int .u64 0, .int .u64 0, .int .u64 0, .int .u64 0, .int .u64 0, .int .u64 0] 28)) := ((Below.refl _ _).alloc (Nat.le_refl _) _).alloc (by simp) _
  replace h := h.below HB
  go_enter Try.func6, Try.ntmps6
  go_wp2_with fail
  refine (open_any ao n cap cs _ h).mono ?_
  rintro e w1 ⟨g, rfl, hG, R, hB⟩
  simp at hG
  have h0 : w.heap.size ≠ g := by omega
  have h1 : w.heap.size + 1 ≠ g := by omega
  replace B0 := B0.step hB; replace B1 := B1.step hB
  replace HB : Below w.heap.size w w1 := HB.trans (hB.mono HB.size)
  have K := Kept.refl g w1
  have hl := HB.size
  clear h hB
  go_wp2_with fail
  refine (ratio_any g ao n cap cs _ R).mono ?_
  rintro e w2 ⟨_, rfl, ⟨x, y, rfl, tx, ty⟩, R1, K1⟩
  replace B0 := B0.kept K1 h0
  replace B1 := B1.kept K1 h1
  replace K := K.trans K1
  clear R K1
  have R := R1
  clear R1
  go_wp2_with fail
  refine (ratio_any g ao n cap cs _ R).mono ?_
  rintro e w3 ⟨_, rfl, ⟨u, v, rfl, tu, tv⟩, R1, K1⟩
  replace B0 := B0.kept K1 h0
  replace B1 := B1.kept K1 h1
  replace K := K.trans K1
  clear R K1
  have R := R1
  clear R1
  replace HB : Below w.heap.size w w3 := HB.trans (K.below (by omega) hl)
  have oc0 := B0.c 0 rfl; have of0 := B0.f 0 rfl; have oc1 := B0.c 1 rfl; have of1 := B0.f 1 rfl; have oc2 := B0.c 2 rfl; have of2 := B0.f 2 rfl; have oc3 := B0.c 3 rfl; have of3 := B0.f 3 rfl; have oc4 := B0.c 4 rfl; have of4 := B0.f 4 rfl; have oc5 := B0.c 5 rfl; have of5 := B0.f 5 rfl; have oc6 := B0.c 6 rfl; have of6 := B0.f 6 rfl; have oc7 := B0.c 7 rfl; have of7 := B0.f 7 rfl; have kc0 := B1.c 0 rfl; have kf0 := B1.f 0 rfl; have kc1 := B1.c 1 rfl; have kf1 := B1.f 1 rfl; have kc2 := B1.c 2 rfl; have kf2 := B1.f 2 rfl; have kc3 := B1.c 3 rfl; have kf3 := B1.f 3 rfl; have kc4 := B1.c 4 rfl; have kf4 := B1.f 4 rfl; have kc5 := B1.c 5 rfl; have kf5 := B1.f 5 rfl; have kc6 := B1.c 6 rfl; have kf6 := B1.f 6 rfl; have kc7 := B1.c 7 rfl; have kf7 := B1.f 7 rfl; have ol := B0.lt; have kl := B1.lt
  clear K R
  go_wp2
  have F0 : Blk ((((((((((((((((w3.setCell ⟨w.heap.size, 0, none⟩ (.int .u64 (ww3 x))).setCell ⟨w.heap.size, 1, none⟩ (.int .u64 (ww2 x))).setCell ⟨w.heap.size, 2, none⟩ (.int .u64 (ww1 x))).setCell ⟨w.heap.size, 3, none⟩ (.int .u64 (ww0 x))).setCell ⟨w.heap.size, 4, none⟩ (.int .u64 (ww3 y))).setCell ⟨w.heap.size, 5, none⟩ (.int .u64 (ww2 y))).setCell ⟨w.heap.size, 6, none⟩ (.int .u64 (ww1 y))).setCell ⟨w.heap.size, 7, none⟩ (.int .u64 (ww0 y))).setCell ⟨(w.heap.size + 1), 0, none⟩ (.int .u64 (ww3 u))).setCell ⟨(w.heap.size + 1), 1, none⟩ (.int .u64 (ww2 u))).setCell ⟨(w.heap.size + 1), 2, none⟩ (.int .u64 (ww1 u))).setCell ⟨(w.heap.size + 1), 3, none⟩ (.int .u64 (ww0 u))).setCell ⟨(w.heap.size + 1), 4, none⟩ (.int .u64 (ww3 v))).setCell ⟨(w.heap.size + 1), 5, none⟩ (.int .u64 (ww2 v))).setCell ⟨(w.heap.size + 1), 6, none⟩ (.int .u64 (ww1 v))).setCell ⟨(w.heap.size + 1), 7, none⟩ (.int .u64 (ww0 v))) w.heap.size [.int .u64 (ww3 x), .int .u64 (ww2 x), .int .u64 (ww1 x), .int .u64 (ww0 x), .int .u64 (ww3 y), .int .u64 (ww2 y), .int .u64 (ww1 y), .int .u64 (ww0 y)] := (B0.stored8 (.int .u64 (ww3 x)) (.int .u64 (ww2 x)) (.int .u64 (ww1 x)) (.int .u64 (ww0 x)) (.int .u64 (ww3 y)) (.int .u64 (ww2 y)) (.int .u64 (ww1 y)) (.int .u64 (ww0 y))).set8 (by omega)
  have F1 : Blk ((((((((((((((((w3.setCell ⟨w.heap.size, 0, none⟩ (.int .u64 (ww3 x))).setCell ⟨w.heap.size, 1, none⟩ (.int .u64 (ww2 x))).setCell ⟨w.heap.size, 2, none⟩ (.int .u64 (ww1 x))).setCell ⟨w.heap.size, 3, none⟩ (.int .u64 (ww0 x))).setCell ⟨w.heap.size, 4, none⟩ (.int .u64 (ww3 y))).setCell ⟨w.heap.size, 5, none⟩ (.int .u64 (ww2 y))).setCell ⟨w.heap.size, 6, none⟩ (.int .u64 (ww1 y))).setCell ⟨w.heap.size, 7, none⟩ (.int .u64 (ww0 y))).setCell ⟨(w.heap.size + 1), 0, none⟩ (.int .u64 (ww3 u))).setCell ⟨(w.heap.size + 1), 1, none⟩ (.int .u64 (ww2 u))).setCell ⟨(w.heap.size + 1), 2, none⟩ (.int .u64 (ww1 u))).setCell ⟨(w.heap.size + 1), 3, none⟩ (.int .u64 (ww0 u))).setCell ⟨(w.heap.size + 1), 4, none⟩ (.int .u64 (ww3 v))).setCell ⟨(w.heap.size + 1), 5, none⟩ (.int .u64 (ww2 v))).setCell ⟨(w.heap.size + 1), 6, none⟩ (.int .u64 (ww1 v))).setCell ⟨(w.heap.size + 1), 7, none⟩ (.int .u64 (ww0 v))) (w.heap.size + 1) [.int .u64 (ww3 u), .int .u64 (ww2 u), .int .u64 (ww1 u), .int .u64 (ww0 u), .int .u64 (ww3 v), .int .u64 (ww2 v), .int .u64 (ww1 v), .int .u64 (ww0 v)] := (B1.set8 (by omega)).stored8 (.int .u64 (ww3 u)) (.int .u64 (ww2 u)) (.int .u64 (ww1 u)) (.int .u64 (ww0 u)) (.int .u64 (ww3 v)) (.int .u64 (ww2 v)) (.int .u64 (ww1 v)) (.int .u64 (ww0 v))
  have HBF : Below w.heap.size w ((((((((((((((((w3.setCell ⟨w.heap.size, 0, none⟩ (.int .u64 (ww3 x))).setCell ⟨w.heap.size, 1, none⟩ (.int .u64 (ww2 x))).setCell ⟨w.heap.size, 2, none⟩ (.int .u64 (ww1 x))).setCell ⟨w.heap.size, 3, none⟩ (.int .u64 (ww0 x))).setCell ⟨w.heap.size, 4, none⟩ (.int .u64 (ww3 y))).setCell ⟨w.heap.size, 5, none⟩ (.int .u64 (ww2 y))).setCell ⟨w.heap.size, 6, none⟩ (.int .u64 (ww1 y))).setCell ⟨w.heap.size, 7, none⟩ (.int .u64 (ww0 y))).setCell ⟨(w.heap.size + 1), 0, none⟩ (.int .u64 (ww3 u))).setCell ⟨(w.heap.size + 1), 1, none⟩ (.int .u64 (ww2 u))).setCell ⟨(w.heap.size + 1), 2, none⟩ (.int .u64 (ww1 u))).setCell ⟨(w.heap.size + 1), 3, none⟩ (.int .u64 (ww0 u))).setCell ⟨(w.heap.size + 1), 4, none⟩ (.int .u64 (ww3 v))).setCell ⟨(w.heap.size + 1), 5, none⟩ (.int .u64 (ww2 v))).setCell ⟨(w.heap.size + 1), 6, none⟩ (.int .u64 (ww1 v))).setCell ⟨(w.heap.size + 1), 7, none⟩ (.int .u64 (ww0 v))) := below_set8 (by omega) (below_set8 (Nat.le_refl _) HB)
  clear B0 B1 HB
  generalize ((((((((((((((((w3.setCell ⟨w.heap.size, 0, none⟩ (.int .u64 (ww3 x))).setCell ⟨w.heap.size, 1, none⟩ (.int .u64 (ww2 x))).setCell ⟨w.heap.size, 2, none⟩ (.int .u64 (ww1 x))).setCell ⟨w.heap.size, 3, none⟩ (.int .u64 (ww0 x))).setCell ⟨w.heap.size, 4, none⟩ (.int .u64 (ww3 y))).setCell ⟨w.heap.size, 5, none⟩ (.int .u64 (ww2 y))).setCell ⟨w.heap.size, 6, none⟩ (.int .u64 (ww1 y))).setCell ⟨w.heap.size, 7, none⟩ (.int .u64 (ww0 y))).setCell ⟨(w.heap.size + 1), 0, none⟩ (.int .u64 (ww3 u))).setCell ⟨(w.heap.size + 1), 1, none⟩ (.int .u64 (ww2 u))).setCell ⟨(w.heap.size + 1), 2, none⟩ (.int .u64 (ww1 u))).setCell ⟨(w.heap.size + 1), 3, none⟩ (.int .u64 (ww0 u))).setCell ⟨(w.heap.size + 1), 4, none⟩ (.int .u64 (ww3 v))).setCell ⟨(w.heap.size + 1), 5, none⟩ (.int .u64 (ww2 v))).setCell ⟨(w.heap.size + 1), 6, none⟩ (.int .u64 (ww1 v))).setCell ⟨(w.heap.size + 1), 7, none⟩ (.int .u64 (ww0 v))) = WF at *
  have m0 := F0.c 0 rfl; have n0 := F1.c 0 rfl; have m1 := F0.c 1 rfl; have n1 := F1.c 1 rfl; have m2 := F0.c 2 rfl; have n2 := F1.c 2 rfl; have m3 := F0.c 3 rfl; have n3 := F1.c 3 rfl; have m4 := F0.c 4 rfl; have n4 := F1.c 4 rfl; have m5 := F0.c 5 rfl; have n5 := F1.c 5 rfl; have m6 := F0.c 6 rfl; have n6 := F1.c 6 rfl; have m7 := F0.c 7 rfl; have n7 := F1.c 7 rfl
  refine bodyPost_ret (v := .tuple #[RZ x y, RZ u v]) (by simp [results, Try.results6, go_sem, m0, n0, m1, n1, m2, n2, m3, n3, m4, n4, m5, n5, m6, n6, m7, n7]) rfl ?_
  exact ⟨x, y, u, v, rfl, tx, ty, tu, tv, by first | exact HBF | exact HBF.drew⟩
set_option maxRecDepth 100000 in
set_option maxHeartbeats 4000000 in
theorem drawRatioCmp_any (ao : Option Addr) (n cap : Nat) (cs : List Int) (w : World) (h : Code w ao n cs) :
    Calls Try.prog 14 #[.slice ao n cap] w (TwoR w) := by
  have B0 := (Blk.new w [.int .u64 0, .int .u64 0, .int .u64 0, .int .u64 0, .int .u64 0, .int .u64 0, .int .u64 0, .int .u64 0] 28 rfl).alloc (.cells #[.int .u64 0, .int .u64 0, .int .u64 0, .int .u64 0, .int .u64 0, .int .u64 0, .int .u64 0, .int .u64 0] 28)
  have B1 := Blk.new (w.alloc (.cells #[.int .u64 0, .int .u64 0, .int .u64 0, .int .u64 0, .int .u64 0, .int .u64 0, .int .u64 0, .int .u64 0] 28)) [.int .u64 0, .int .u64 0, .int .u64 0, .int .u64 0, .int .u64 0, .int .u64 0, .int .u64 0, .int .u64 0] 28 (g := w.heap.size + 1) (by simp)
  have HB : Below w.heap.size w ((w.alloc (.cells #[.int .u64 0, .int .u64 0, .int .u64 0, .int .u64 0, .int .u64 0, .int .u64 0, .int .u64 0, .int .u64 0] 28)).alloc (.cells #[.int .u64 0, .int .u64 0, .int .u64 0, .int .u64 0, .int .u64 0, .int .u64 0, .int .u64 0, .int .u64 0] 28)) := ((Below.refl _ _).alloc (Nat.le_refl _) _).alloc (by simp) _
  replace h := h.below HB
  go_enter Try.func14, Try.ntmps14
  go_wp2_with fail
  refine (open_any ao n cap cs _ h).mono ?_
  rintro e w1 ⟨g, rfl, hG, R, hB⟩
  simp at hG
  have h0 : w.heap.size ≠ g := by omega
  have h1 : w.heap.size + 1 ≠ g := by omega
  replace B0 := B0.step hB; replace B1 := B1.step hB
  replace HB : Below w.heap.size w w1 := HB.trans (hB.mono HB.size)
  have K := Kept.refl g w1
  have hl := HB.size
  clear h hB
  go_wp2_with fail
  refine (ratio_any g ao n cap cs _ R).mono ?_
  rintro e w2 ⟨_, rfl, ⟨x, y, rfl, tx, ty⟩, R1, K1⟩
  replace B0 := B0.kept K1 h0
  replace B1 := B1.kept K1 h1
  replace K := K.trans K1
  clear R K1
  have R := R1
  clear R1
  have hnp : w2.heap.size ≠ g := by have := R.lt; omega
  have hgp : w.heap.size + 1 < w2.heap.size := B1.lt
  have Xp := Blk.new w2 [.int .u64 (ww3 x), .int .u64 (ww2 x), .int .u64 (ww1 x), .int .u64 (ww0 x), .int .u64 (ww3 y), .int .u64 (ww2 y), .int .u64 (ww1 y), .int .u64 (ww0 y)] 28 rfl
  replace R := R.alloc (.cells #[.int .u64 (ww3 x), .int .u64 (ww2 x), .int .u64 (ww1 x), .int .u64 (ww0 x), .int .u64 (ww3 y), .int .u64 (ww2 y), .int .u64 (ww1 y), .int .u64 (ww0 y)] 28); replace B0 := B0.alloc (.cells #[.int .u64 (ww3 x), .int .u64 (ww2 x), .int .u64 (ww1 x), .int .u64 (ww0 x), .int .u64 (ww3 y), .int .u64 (ww2 y), .int .u64 (ww1 y), .int .u64 (ww0 y)] 28); replace B1 := B1.alloc (.cells #[.int .u64 (ww3 x), .int .u64 (ww2 x), .int .u64 (ww1 x), .int .u64 (ww0 x), .int .u64 (ww3 y), .int .u64 (ww2 y), .int .u64 (ww1 y), .int .u64 (ww0 y)] 28); replace K := K.alloc (.cells #[.int .u64 (ww3 x), .int .u64 (ww2 x), .int .u64 (ww1 x), .int .u64 (ww0 x), .int .u64 (ww3 y), .int .u64 (ww2 y), .int .u64 (ww1 y), .int .u64 (ww0 y)] 28)
  go_wp2_with fail
  generalize w2.alloc (.cells #[.int .u64 (ww3 x), .int .u64 (ww2 x), .int .u64 (ww1 x), .int .u64 (ww0 x), .int .u64 (ww3 y), .int .u64 (ww2 y), .int .u64 (ww1 y), .int .u64 (ww0 y)] 28) = W2 at *
  generalize w2.heap.size = gp at *
  refine (once_any 5 (by decide) (by decide) g ao n cap cs _ R).mono ?_
  rintro e w3 ⟨_, rfl, ⟨bb, rfl⟩, R1, K1⟩
  replace B0 := B0.kept K1 h0; replace B1 := B1.kept K1 h1; replace K := K.trans K1; replace Xp := Xp.kept K1 hnp
  clear R K1
  have R := R1
  clear R1
  cases bb
  · go_upto_region 5 with fail
    go_region_held3 (fun w' => w'.cell? ⟨gp, 0, none⟩ = some (.int .u64 (ww3 x)) ∧ w'.cell? ⟨gp, 1, none⟩ = some (.int .u64 (ww2 x)) ∧ w'.cell? ⟨gp, 2, none⟩ = some (.int .u64 (ww1 x)) ∧ w'.cell? ⟨gp, 3, none⟩ = some (.int .u64 (ww0 x)) ∧ w'.cell? ⟨gp, 4, none⟩ = some (.int .u64 (ww3 y)) ∧ w'.cell? ⟨gp, 5, none⟩ = some (.int .u64 (ww2 y)) ∧ w'.cell? ⟨gp, 6, none⟩ = some (.int .u64 (ww1 y)) ∧ w'.cell? ⟨gp, 7, none⟩ = some (.int .u64 (ww0 y))) ((refine rd_cells ?_ <;> repeat (first | (with_reducible exact Xp) | (with_reducible refine Blk.drew ?_) | (with_reducible refine Blk.set8 ?_ (by omega)))))
      (first
        | (go_at_call 21; refine (ratio_any g ao n cap cs _ (by first | exact R | exact R.drew)).mono ?_; rintro e w5 ⟨_, rfl, ⟨u, v, rfl, tu, tv⟩, R1, K1⟩; (first | (replace B0 := B0.kept K1 h0; replace B1 := B1.kept K1 h1; replace K := K.trans K1; replace Xp := Xp.kept K1 hnp) | (replace B0 := B0.drew.kept K1 h0; replace B1 := B1.drew.kept K1 h1; replace K := K.drew.trans K1; replace Xp := Xp.drew.kept K1 hnp)); clear R K1; have R := R1; clear R1; have oc0 := B0.c 0 rfl; have of0 := B0.f 0 rfl; have oc1 := B0.c 1 rfl; have of1 := B0.f 1 rfl; have oc2 := B0.c 2 rfl; have of2 := B0.f 2 rfl; have oc3 := B0.c 3 rfl; have of3 := B0.f 3 rfl; have oc4 := B0.c 4 rfl; have of4 := B0.f 4 rfl; have oc5 := B0.c 5 rfl; have of5 := B0.f 5 rfl; have oc6 := B0.c 6 rfl; have of6 := B0.f 6 rfl; have oc7 := B0.c 7 rfl; have of7 := B0.f 7 rfl; have kc0 := B1.c 0 rfl; have kf0 := B1.f 0 rfl; have kc1 := B1.c 1 rfl; have kf1 := B1.f 1 rfl; have kc2 := B1.c 2 rfl; have kf2 := B1.f 2 rfl; have kc3 := B1.c 3 rfl; have kf3 := B1.f 3 rfl; have kc4 := B1.c 4 rfl; have kf4 := B1.f 4 rfl; have kc5 := B1.c 5 rfl; have kf5 := B1.f 5 rfl; have kc6 := B1.c 6 rfl; have kf6 := B1.f 6 rfl; have kc7 := B1.c 7 rfl; have kf7 := B1.f 7 rfl; have ol := B0.lt; have kl := B1.lt))
    all_goals replace HB : Below w.heap.size w w5 := HB.trans (K.below (by omega) hl)
    all_goals clear Xp K R
    all_goals go_wp2
    all_goals (
      have F0 : Blk ((((((((((((((((w5.setCell ⟨w.heap.size, 0, none⟩ (.int .u64 (ww3 x))).setCell ⟨w.heap.size, 1, none⟩ (.int .u64 (ww2 x))).setCell ⟨w.heap.size, 2, none⟩ (.int .u64 (ww1 x))).setCell ⟨w.heap.size, 3, none⟩ (.int .u64 (ww0 x))).setCell ⟨w.heap.size, 4, none⟩ (.int .u64 (ww3 y))).setCell ⟨w.heap.size, 5, none⟩ (.int .u64 (ww2 y))).setCell ⟨w.heap.size, 6, none⟩ (.int .u64 (ww1 y))).setCell ⟨w.heap.size, 7, none⟩ (.int .u64 (ww0 y))).setCell ⟨(w.heap.size + 1), 0, none⟩ (.int .u64 (ww3 u))).setCell ⟨(w.heap.size + 1), 1, none⟩ (.int .u64 (ww2 u))).setCell ⟨(w.heap.size + 1), 2, none⟩ (.int .u64 (ww1 u))).setCell ⟨(w.heap.size + 1), 3, none⟩ (.int .u64 (ww0 u))).setCell ⟨(w.heap.size + 1), 4, none⟩ (.int .u64 (ww3 v))).setCell ⟨(w.heap.size + 1), 5, none⟩ (.int .u64 (ww2 v))).setCell ⟨(w.heap.size + 1), 6, none⟩ (.int .u64 (ww1 v))).setCell ⟨(w.heap.size + 1), 7, none⟩ (.int .u64 (ww0 v))) w.heap.size [.int .u64 (ww3 x), .int .u64 (ww2 x), .int .u64 (ww1 x), .int .u64 (ww0 x), .int .u64 (ww3 y), .int .u64 (ww2 y), .int .u64 (ww1 y), .int .u64 (ww0 y)] := (B0.stored8 (.int .u64 (ww3 x)) (.int .u64 (ww2 x)) (.int .u64 (ww1 x)) (.int .u64 (ww0 x)) (.int .u64 (ww3 y)) (.int .u64 (ww2 y)) (.int .u64 (ww1 y)) (.int .u64 (ww0 y))).set8 (by omega)
      have F1 : Blk ((((((((((((((((w5.setCell ⟨w.heap.size, 0, none⟩ (.int .u64 (ww3 x))).setCell ⟨w.heap.size, 1, none⟩ (.int .u64 (ww2 x))).setCell ⟨w.heap.size, 2, none⟩ (.int .u64 (ww1 x))).setCell ⟨w.heap.size, 3, none⟩ (.int .u64 (ww0 x))).setCell ⟨w.heap.size, 4, none⟩ (.int .u64 (ww3 y))).setCell ⟨w.heap.size, 5, none⟩ (.int .u64 (ww2 y))).setCell ⟨w.heap.size, 6, none⟩ (.int .u64 (ww1 y))).setCell ⟨w.heap.size, 7, none⟩ (.int .u64 (ww0 y))).setCell ⟨(w.heap.size + 1), 0, none⟩ (.int .u64 (ww3 u))).setCell ⟨(w.heap.size + 1), 1, none⟩ (.int .u64 (ww2 u))).setCell ⟨(w.heap.size + 1), 2, none⟩ (.int .u64 (ww1 u))).setCell ⟨(w.heap.size + 1), 3, none⟩ (.int .u64 (ww0 u))).setCell ⟨(w.heap.size + 1), 4, none⟩ (.int .u64 (ww3 v))).setCell ⟨(w.heap.size + 1), 5, none⟩ (.int .u64 (ww2 v))).setCell ⟨(w.heap.size + 1), 6, none⟩ (.int .u64 (ww1 v))).setCell ⟨(w.heap.size + 1), 7, none⟩ (.int .u64 (ww0 v))) (w.heap.size + 1) [.int .u64 (ww3 u), .int .u64 (ww2 u), .int .u64 (ww1 u), .int .u64 (ww0 u), .int .u64 (ww3 v), .int .u64 (ww2 v), .int .u64 (ww1 v), .int .u64 (ww0 v)] := (B1.set8 (by omega)).stored8 (.int .u64 (ww3 u)) (.int .u64 (ww2 u)) (.int .u64 (ww1 u)) (.int .u64 (ww0 u)) (.int .u64 (ww3 v)) (.int .u64 (ww2 v)) (.int .u64 (ww1 v)) (.int .u64 (ww0 v))
      have HBF : Below w.heap.size w ((((((((((((((((w5.setCell ⟨w.heap.size, 0, none⟩ (.int .u64 (ww3 x))).setCell ⟨w.heap.size, 1, none⟩ (.int .u64 (ww2 x))).setCell ⟨w.heap.size, 2, none⟩ (.int .u64 (ww1 x))).setCell ⟨w.heap.size, 3, none⟩ (.int .u64 (ww0 x))).setCell ⟨w.heap.size, 4, none⟩ (.int .u64 (ww3 y))).setCell ⟨w.heap.size, 5, none⟩ (.int .u64 (ww2 y))).setCell ⟨w.heap.size, 6, none⟩ (.int .u64 (ww1 y))).setCell ⟨w.heap.size, 7, none⟩ (.int .u64 (ww0 y))).setCell ⟨(w.heap.size + 1), 0, none⟩ (.int .u64 (ww3 u))).setCell ⟨(w.heap.size + 1), 1, none⟩ (.int .u64 (ww2 u))).setCell ⟨(w.heap.size + 1), 2, none⟩ (.int .u64 (ww1 u))).setCell ⟨(w.heap.size + 1), 3, none⟩ (.int .u64 (ww0 u))).setCell ⟨(w.heap.size + 1), 4, none⟩ (.int .u64 (ww3 v))).setCell ⟨(w.heap.size + 1), 5, none⟩ (.int .u64 (ww2 v))).setCell ⟨(w.heap.size + 1), 6, none⟩ (.int .u64 (ww1 v))).setCell ⟨(w.heap.size + 1), 7, none⟩ (.int .u64 (ww0 v))) := below_set8 (by omega) (below_set8 (Nat.le_refl _) HB)
      clear B0 B1 HB
      generalize ((((((((((((((((w5.setCell ⟨w.heap.size, 0, none⟩ (.int .u64 (ww3 x))).setCell ⟨w.heap.size, 1, none⟩ (.int .u64 (ww2 x))).setCell ⟨w.heap.size, 2, none⟩ (.int .u64 (ww1 x))).setCell ⟨w.heap.size, 3, none⟩ (.int .u64 (ww0 x))).setCell ⟨w.heap.size, 4, none⟩ (.int .u64 (ww3 y))).setCell ⟨w.heap.size, 5, none⟩ (.int .u64 (ww2 y))).setCell ⟨w.heap.size, 6, none⟩ (.int .u64 (ww1 y))).setCell ⟨w.heap.size, 7, none⟩ (.int .u64 (ww0 y))).setCell ⟨(w.heap.size + 1), 0, none⟩ (.int .u64 (ww3 u))).setCell ⟨(w.heap.size + 1), 1, none⟩ (.int .u64 (ww2 u))).setCell ⟨(w.heap.size + 1), 2, none⟩ (.int .u64 (ww1 u))).setCell ⟨(w.heap.size + 1), 3, none⟩ (.int .u64 (ww0 u))).setCell ⟨(w.heap.size + 1), 4, none⟩ (.int .u64 (ww3 v))).setCell ⟨(w.heap.size + 1), 5, none⟩ (.int .u64 (ww2 v))).setCell ⟨(w.heap.size + 1), 6, none⟩ (.int .u64 (ww1 v))).setCell ⟨(w.heap.size + 1), 7, none⟩ (.int .u64 (ww0 v))) = WF at *
      have m0 := F0.c 0 rfl; have n0 := F1.c 0 rfl; have m1 := F0.c 1 rfl; have n1 := F1.c 1 rfl; have m2 := F0.c 2 rfl; have n2 := F1.c 2 rfl; have m3 := F0.c 3 rfl; have n3 := F1.c 3 rfl; have m4 := F0.c 4 rfl; have n4 := F1.c 4 rfl; have m5 := F0.c 5 rfl; have n5 := F1.c 5 rfl; have m6 := F0.c 6 rfl; have n6 := F1.c 6 rfl; have m7 := F0.c 7 rfl; have n7 := F1.c 7 rfl
      refine bodyPost_ret (v := .tuple #[RZ x y, RZ u v]) (by simp [results, Try.results14, go_sem, m0, n0, m1, n1, m2, n2, m3, n3, m4, n4, m5, n5, m6, n6, m7, n7]) rfl ?_
      exact ⟨x, y, u, v, rfl, tx, ty, tu, tv, by first | exact HBF | exact HBF.drew⟩)
  · replace HB : Below w.heap.size w w3 := HB.trans (K.below (by omega) hl)
    have oc0 := B0.c 0 rfl; have of0 := B0.f 0 rfl; have oc1 := B0.c 1 rfl; have of1 := B0.f 1 rfl; have oc2 := B0.c 2 rfl; have of2 := B0.f 2 rfl; have oc3 := B0.c 3 rfl; have of3 := B0.f 3 rfl; have oc4 := B0.c 4 rfl; have of4 := B0.f 4 rfl; have oc5 := B0.c 5 rfl; have of5 := B0.f 5 rfl; have oc6 := B0.c 6 rfl; have of6 := B0.f 6 rfl; have oc7 := B0.c 7 rfl; have of7 := B0.f 7 rfl; have kc0 := B1.c 0 rfl; have kf0 := B1.f 0 rfl; have kc1 := B1.c 1 rfl; have kf1 := B1.f 1 rfl; have kc2 := B1.c 2 rfl; have kf2 := B1.f 2 rfl; have kc3 := B1.c 3 rfl; have kf3 := B1.f 3 rfl; have kc4 := B1.c 4 rfl; have kf4 := B1.f 4 rfl; have kc5 := B1.c 5 rfl; have kf5 := B1.f 5 rfl; have kc6 := B1.c 6 rfl; have kf6 := B1.f 6 rfl; have kc7 := B1.c 7 rfl; have kf7 := B1.f 7 rfl; have ol := B0.lt; have kl := B1.lt
    go_upto_region 4 with fail
    go_region_held3 (fun w' => w'.cell? ⟨gp, 0, none⟩ = some (.int .u64 (ww3 x)) ∧ w'.cell? ⟨gp, 1, none⟩ = some (.int .u64 (ww2 x)) ∧ w'.cell? ⟨gp, 2, none⟩ = some (.int .u64 (ww1 x)) ∧ w'.cell? ⟨gp, 3, none⟩ = some (.int .u64 (ww0 x)) ∧ w'.cell? ⟨gp, 4, none⟩ = some (.int .u64 (ww3 y)) ∧ w'.cell? ⟨gp, 5, none⟩ = some (.int .u64 (ww2 y)) ∧ w'.cell? ⟨gp, 6, none⟩ = some (.int .u64 (ww1 y)) ∧ w'.cell? ⟨gp, 7, none⟩ = some (.int .u64 (ww0 y))) ((refine rd_cells ?_ <;> repeat (first | (with_reducible exact Xp) | (with_reducible refine Blk.drew ?_) | (with_reducible refine Blk.set8 ?_ (by omega)))))
      (first | fail)
    all_goals clear Xp K R
    all_goals go_wp2
    all_goals (
      have F0 : Blk ((((((((((((((((w3.setCell ⟨w.heap.size, 0, none⟩ (.int .u64 (ww3 x))).setCell ⟨w.heap.size, 1, none⟩ (.int .u64 (ww2 x))).setCell ⟨w.heap.size, 2, none⟩ (.int .u64 (ww1 x))).setCell ⟨w.heap.size, 3, none⟩ (.int .u64 (ww0 x))).setCell ⟨w.heap.size, 4, none⟩ (.int .u64 (ww3 y))).setCell ⟨w.heap.size, 5, none⟩ (.int .u64 (ww2 y))).setCell ⟨w.heap.size, 6, none⟩ (.int .u64 (ww1 y))).setCell ⟨w.heap.size, 7, none⟩ (.int .u64 (ww0 y))).setCell ⟨(w.heap.size + 1), 0, none⟩ (.int .u64 (ww3 x))).setCell ⟨(w.heap.size + 1), 1, none⟩ (.int .u64 (ww2 x))).setCell ⟨(w.heap.size + 1), 2, none⟩ (.int .u64 (ww1 x))).setCell ⟨(w.heap.size + 1), 3, none⟩ (.int .u64 (ww0 x))).setCell ⟨(w.heap.size + 1), 4, none⟩ (.int .u64 (ww3 y))).setCell ⟨(w.heap.size + 1), 5, none⟩ (.int .u64 (ww2 y))).setCell ⟨(w.heap.size + 1), 6, none⟩ (.int .u64 (ww1 y))).setCell ⟨(w.heap.size + 1), 7, none⟩ (.int .u64 (ww0 y))) w.heap.size [.int .u64 (ww3 x), .int .u64 (ww2 x), .int .u64 (ww1 x), .int .u64 (ww0 x), .int .u64 (ww3 y), .int .u64 (ww2 y), .int .u64 (ww1 y), .int .u64 (ww0 y)] := (B0.stored8 (.int .u64 (ww3 x)) (.int .u64 (ww2 x)) (.int .u64 (ww1 x)) (.int .u64 (ww0 x)) (.int .u64 (ww3 y)) (.int .u64 (ww2 y)) (.int .u64 (ww1 y)) (.int .u64 (ww0 y))).set8 (by omega)
      have F1 : Blk ((((((((((((((((w3.setCell ⟨w.heap.size, 0, none⟩ (.int .u64 (ww3 x))).setCell ⟨w.heap.size, 1, none⟩ (.int .u64 (ww2 x))).setCell ⟨w.heap.size, 2, none⟩ (.int .u64 (ww1 x))).setCell ⟨w.heap.size, 3, none⟩ (.int .u64 (ww0 x))).setCell ⟨w.heap.size, 4, none⟩ (.int .u64 (ww3 y))).setCell ⟨w.heap.size, 5, none⟩ (.int .u64 (ww2 y))).setCell ⟨w.heap.size, 6, none⟩ (.int .u64 (ww1 y))).setCell ⟨w.heap.size, 7, none⟩ (.int .u64 (ww0 y))).setCell ⟨(w.heap.size + 1), 0, none⟩ (.int .u64 (ww3 x))).setCell ⟨(w.heap.size + 1), 1, none⟩ (.int .u64 (ww2 x))).setCell ⟨(w.heap.size + 1), 2, none⟩ (.int .u64 (ww1 x))).setCell ⟨(w.heap.size + 1), 3, none⟩ (.int .u64 (ww0 x))).setCell ⟨(w.heap.size + 1), 4, none⟩ (.int .u64 (ww3 y))).setCell ⟨(w.heap.size + 1), 5, none⟩ (.int .u64 (ww2 y))).setCell ⟨(w.heap.size + 1), 6, none⟩ (.int .u64 (ww1 y))).setCell ⟨(w.heap.size + 1), 7, none⟩ (.int .u64 (ww0 y))) (w.heap.size + 1) [.int .u64 (ww3 x), .int .u64 (ww2 x), .int .u64 (ww1 x), .int .u64 (ww0 x), .int .u64 (ww3 y), .int .u64 (ww2 y), .int .u64 (ww1 y), .int .u64 (ww0 y)] := (B1.set8 (by omega)).stored8 (.int .u64 (ww3 x)) (.int .u64 (ww2 x)) (.int .u64 (ww1 x)) (.int .u64 (ww0 x)) (.int .u64 (ww3 y)) (.int .u64 (ww2 y)) (.int .u64 (ww1 y)) (.int .u64 (ww0 y))
      have HBF : Below w.heap.size w ((((((((((((((((w3.setCell ⟨w.heap.size, 0, none⟩ (.int .u64 (ww3 x))).setCell ⟨w.heap.size, 1, none⟩ (.int .u64 (ww2 x))).setCell ⟨w.heap.size, 2, none⟩ (.int .u64 (ww1 x))).setCell ⟨w.heap.size, 3, none⟩ (.int .u64 (ww0 x))).setCell ⟨w.heap.size, 4, none⟩ (.int .u64 (ww3 y))).setCell ⟨w.heap.size, 5, none⟩ (.int .u64 (ww2 y))).setCell ⟨w.heap.size, 6, none⟩ (.int .u64 (ww1 y))).setCell ⟨w.heap.size, 7, none⟩ (.int .u64 (ww0 y))).setCell ⟨(w.heap.size + 1), 0, none⟩ (.int .u64 (ww3 x))).setCell ⟨(w.heap.size + 1), 1, none⟩ (.int .u64 (ww2 x))).setCell ⟨(w.heap.size + 1), 2, none⟩ (.int .u64 (ww1 x))).setCell ⟨(w.heap.size + 1), 3, none⟩ (.int .u64 (ww0 x))).setCell ⟨(w.heap.size + 1), 4, none⟩ (.int .u64 (ww3 y))).setCell ⟨(w.heap.size + 1), 5, none⟩ (.int .u64 (ww2 y))).setCell ⟨(w.heap.size + 1), 6, none⟩ (.int .u64 (ww1 y))).setCell ⟨(w.heap.size + 1), 7, none⟩ (.int .u64 (ww0 y))) := below_set8 (by omega) (below_set8 (Nat.le_refl _) HB)
      clear B0 B1 HB
      generalize ((((((((((((((((w3.setCell ⟨w.heap.size, 0, none⟩ (.int .u64 (ww3 x))).setCell ⟨w.heap.size, 1, none⟩ (.int .u64 (ww2 x))).setCell ⟨w.heap.size, 2, none⟩ (.int .u64 (ww1 x))).setCell ⟨w.heap.size, 3, none⟩ (.int .u64 (ww0 x))).setCell ⟨w.heap.size, 4, none⟩ (.int .u64 (ww3 y))).setCell ⟨w.heap.size, 5, none⟩ (.int .u64 (ww2 y))).setCell ⟨w.heap.size, 6, none⟩ (.int .u64 (ww1 y))).setCell ⟨w.heap.size, 7, none⟩ (.int .u64 (ww0 y))).setCell ⟨(w.heap.size + 1), 0, none⟩ (.int .u64 (ww3 x))).setCell ⟨(w.heap.size + 1), 1, none⟩ (.int .u64 (ww2 x))).setCell ⟨(w.heap.size + 1), 2, none⟩ (.int .u64 (ww1 x))).setCell ⟨(w.heap.size + 1), 3, none⟩ (.int .u64 (ww0 x))).setCell ⟨(w.heap.size + 1), 4, none⟩ (.int .u64 (ww3 y))).setCell ⟨(w.heap.size + 1), 5, none⟩ (.int .u64 (ww2 y))).setCell ⟨(w.heap.size + 1), 6, none⟩ (.int .u64 (ww1 y))).setCell ⟨(w.heap.size + 1), 7, none⟩ (.int .u64 (ww0 y))) = WF at *
      have m0 := F0.c 0 rfl; have n0 := F1.c 0 rfl; have m1 := F0.c 1 rfl; have n1 := F1.c 1 rfl; have m2 := F0.c 2 rfl; have n2 := F1.c 2 rfl; have m3 := F0.c 3 rfl; have n3 := F1.c 3 rfl; have m4 := F0.c 4 rfl; have n4 := F1.c 4 rfl; have m5 := F0.c 5 rfl; have n5 := F1.c 5 rfl; have m6 := F0.c 6 rfl; have n6 := F1.c 6 rfl; have m7 := F0.c 7 rfl; have n7 := F1.c 7 rfl
      refine bodyPost_ret (v := .tuple #[RZ x y, RZ x y]) (by simp [results, Try.results14, go_sem, m0, n0, m1, n1, m2, n2, m3, n3, m4, n4, m5, n5, m6, n6, m7, n7]) rfl ?_
      exact ⟨x, y, x, y, rfl, tx, ty, tx, ty, by first | exact HBF | exact HBF.drew⟩)
end Go.Proofs.Ytgeaklaocifhcaa
