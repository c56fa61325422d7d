/- Part 14 of the walks that the proof leans on. -/
import Derived.Test.YtgmenloipiedeaaBase13
/- Points drawn from a code: the walks. -/
namespace Go.Proofs.Ytgmenloipiedeaa
open Go.RowKit
theorem pt_done {w W : World} {g : Nat} {ao : Option Addr} {n cap : Nat} {cs : List Int} {a b c : Int} (hg : g < w.heap.size) (R : Rdr W g ao n cap cs) (K : Kept g w W) (ta : told a = true) (tb : told b = true) (tc : told c = true) {v0 v1 v2 v3 v4 v5 v6 v7 v8 v9 v10 v11 : Value} :
    RdP g ao n cap cs IsPt w (.returned (PV a b c)) ((((((((((((W.setCell ⟨w.heap.size, 0, none⟩ v0).setCell ⟨w.heap.size, 1, none⟩ v1).setCell ⟨w.heap.size, 2, none⟩ v2).setCell ⟨w.heap.size, 3, none⟩ v3).setCell ⟨w.heap.size, 4, none⟩ v4).setCell ⟨w.heap.size, 5, none⟩ v5).setCell ⟨w.heap.size, 6, none⟩ v6).setCell ⟨w.heap.size, 7, none⟩ v7).setCell ⟨w.heap.size, 8, none⟩ v8).setCell ⟨w.heap.size, 9, none⟩ v9).setCell ⟨w.heap.size, 10, none⟩ v10).setCell ⟨w.heap.size, 11, none⟩ v11) := by
  refine ⟨_, rfl, ⟨a, b, c, rfl, ta, tb, tc⟩, ?_, ?_⟩
  · repeat' (refine Rdr.setN ?_ (by exact hg) _)
    exact R
  · repeat' (refine Kept.setN ?_ (by simp) (by simp; omega) _)
    exact K
theorem told_w (n : Int) : told (wrap64 n) = true := told_small (small_int (by unfold wrap64; omega) (by unfold wrap64; omega))
theorem specOfW (n : Int) (w : World) (h0 : -9223372036854775808 ≤ n) (h1 : n ≤ 9223372036854775807) : Calls Try.prog 55 #[.int .i64 n] w (VP (W4 n) w) := by
  refine (specOf_any n w h0 h1).mono ?_
  rintro e w' ⟨a3, a2, a1, a0, rfl, g3, g2, g1, g0, hs, hB⟩
  obtain ⟨rfl, rfl, rfl, rfl⟩ := wd_of g3 g2 g1 g0 hs
  exact ⟨rfl, hB⟩
/-- A spot of small numbers. -/
def IsSp6 (v : Value) : Prop := ∃ x y : Int, v = .agg #[.int .i64 x, .int .i64 y] ∧ -6 ≤ x ∧ x < 7 ∧ -6 ≤ y ∧ y < 7
set_option maxRecDepth 100000 in
set_option maxHeartbeats 1000000 in
theorem spot_any (g : Nat) (ao : Option Addr) (n cap : Nat) (cs : List Int) (w : World) (h : Rdr w g ao n cap cs) :
    Calls Try.prog 59 #[.pointer (some ⟨g, 0, none⟩)] w (RdP g ao n cap cs IsSp6 w) := by
  have hg := h.lt
  have hne : w.heap.size ≠ g := by omega
  have B := Blk.new w [.int .i64 0, .int .i64 0] 91 rfl
  have R := h.alloc (.cells #[.int .i64 0, .int .i64 0] 91)
  have K := (Kept.refl g w).alloc (.cells #[.int .i64 0, .int .i64 0] 91)
  clear h
  go_enter Try.func59, Try.ntmps59
  go_wp2_with fail
  refine (near_p6 g ao n cap cs _ R).mono ?_
  rintro e w1 ⟨_, rfl, ⟨y, rfl, y0, y1⟩, R1, K1⟩
  replace B := B.kept K1 hne; replace K := K.trans K1
  clear R K1
  have R := R1
  clear R1
  go_wp2_with fail
  refine (near_p6 g ao n cap cs _ R).mono ?_
  rintro e w2 ⟨_, rfl, ⟨y', rfl, y0', y1'⟩, R1, K1⟩
  replace B := B.kept K1 hne; replace K := K.trans K1
  clear R K1
  have R := R1
  clear R1
  have o0 := B.c 0 rfl; have f0 := B.f 0 rfl; have o1 := B.c 1 rfl; have f1 := B.f 1 rfl; have ol := B.lt
  clear B
  go_wp2
  refine bodyPost_ret (v := .agg #[.int .i64 y, .int .i64 y']) (by simp [results, Try.results59, go_sem, o0, o1]) rfl ?_
  exact ⟨_, rfl, ⟨y, y', rfl, y0, y1, y0', y1'⟩, (R.setN (by exact hg) _).setN (by exact hg) _, (K.setN (by simp) (by simp; omega) _).setN (by simp) (by simp; omega) _⟩
set_option maxRecDepth 100000 in
set_option maxHeartbeats 4000000 in
theorem point_any (g : Nat) (ao : Option Addr) (n cap : Nat) (cs : List Int) (w : World) (h : Rdr w g ao n cap cs) :
    Calls Try.prog 23 #[.pointer (some ⟨g, 0, none⟩)] w (RdP g ao n cap cs IsPt w) := by
  have hg := h.lt
  have hne : w.heap.size ≠ g := by omega
  have B := Blk.new w [.int .u64 0, .int .u64 0, .int .u64 0, .int .u64 0, .int .u64 0, .int .u64 0, .int .u64 0, .int .u64 0, .int .u64 0, .int .u64 0, .int .u64 0, .int .u64 0] 28 rfl
  have R := h.alloc (.cells #[.int .u64 0, .int .u64 0, .int .u64 0, .int .u64 0, .int .u64 0, .int .u64 0, .int .u64 0, .int .u64 0, .int .u64 0, .int .u64 0, .int .u64 0, .int .u64 0] 28)
  have K := (Kept.refl g w).alloc (.cells #[.int .u64 0, .int .u64 0, .int .u64 0, .int .u64 0, .int .u64 0, .int .u64 0, .int .u64 0, .int .u64 0, .int .u64 0, .int .u64 0, .int .u64 0, .int .u64 0] 28)
  have SO := fun n w h0 h1 => specOfW n w h0 h1
  clear h
  go_enter Try.func23, Try.ntmps23
  go_wp2_with fail
  refine (below_any 10 (by decide) (by decide) g ao n cap cs _ R).mono ?_
  rintro e w1 ⟨_, rfl, ⟨x, rfl, x0, x1⟩, R1, K1⟩
  replace B := B.kept K1 hne; replace K := K.trans K1
  clear R K1
  have R := R1
  clear R1
  rcases (by omega : x = 0 ∨ x = 1 ∨ (x = 2 ∨ x = 3 ∨ x = 4) ∨ x = 5 ∨ (x = 6 ∨ x = 7 ∨ x = 8 ∨ x = 9)) with rfl | rfl | hx | rfl | hx
  · clear SO x0 x1
    go_wp2_with fail
    refine (wide_any g ao n cap cs _ R).mono ?_
    rintro e w2 ⟨v_, rfl, hv, R1, K1⟩
    replace B := B.kept K1 hne; replace K := K.trans K1
    clear R K1
    have R := R1
    clear R1
    obtain ⟨xa, rfl, txa⟩ := wide_W4 hv
    clear hv
    go_wp2_with fail
    refine (wide_any g ao n cap cs _ R).mono ?_
    rintro e w3 ⟨v_, rfl, hv, R1, K1⟩
    replace B := B.kept K1 hne; replace K := K.trans K1
    clear R K1
    have R := R1
    clear R1
    obtain ⟨xb, rfl, txb⟩ := wide_W4 hv
    clear hv
    go_wp2_with fail
    refine (wide_any g ao n cap cs _ R).mono ?_
    rintro e w4 ⟨v_, rfl, hv, R1, K1⟩
    replace B := B.kept K1 hne; replace K := K.trans K1
    clear R K1
    have R := R1
    clear R1
    obtain ⟨xc, rfl, txc⟩ := wide_W4 hv
    clear hv
    have PM := fun w => specPointMake_det xa xb xc txa txb txc w
    obtain ⟨a, b, c, tt, hpm, ta, tb, tc⟩ := pmV_pt xa xb xc
    rw [hpm] at PM
    clear hpm
    go_wp2_with fail
    refine (PM _).mono ?_
    rintro e w5 ⟨rfl, hB⟩
    replace R := R.step hB; replace B := B.step hB; replace K := K.trans (Kept.of hB)
    clear hB
    clear PM
    replace R := R.alloc (.cells #[.int .u64 (ww3 a), .int .u64 (ww2 a), .int .u64 (ww1 a), .int .u64 (ww0 a), .int .u64 (ww3 b), .int .u64 (ww2 b), .int .u64 (ww1 b), .int .u64 (ww0 b), .int .u64 (ww3 c), .int .u64 (ww2 c), .int .u64 (ww1 c), .int .u64 (ww0 c)] 28); replace B := B.alloc (.cells #[.int .u64 (ww3 a), .int .u64 (ww2 a), .int .u64 (ww1 a), .int .u64 (ww0 a), .int .u64 (ww3 b), .int .u64 (ww2 b), .int .u64 (ww1 b), .int .u64 (ww0 b), .int .u64 (ww3 c), .int .u64 (ww2 c), .int .u64 (ww1 c), .int .u64 (ww0 c)] 28); replace K := K.alloc (.cells #[.int .u64 (ww3 a), .int .u64 (ww2 a), .int .u64 (ww1 a), .int .u64 (ww0 a), .int .u64 (ww3 b), .int .u64 (ww2 b), .int .u64 (ww1 b), .int .u64 (ww0 b), .int .u64 (ww3 c), .int .u64 (ww2 c), .int .u64 (ww1 c), .int .u64 (ww0 c)] 28)
    have o0 := B.c 0 rfl; have f0 := B.f 0 rfl; have o1 := B.c 1 rfl; have f1 := B.f 1 rfl; have o2 := B.c 2 rfl; have f2 := B.f 2 rfl; have o3 := B.c 3 rfl; have f3 := B.f 3 rfl; have o4 := B.c 4 rfl; have f4 := B.f 4 rfl; have o5 := B.c 5 rfl; have f5 := B.f 5 rfl; have o6 := B.c 6 rfl; have f6 := B.f 6 rfl; have o7 := B.c 7 rfl; have f7 := B.f 7 rfl; have o8 := B.c 8 rfl; have f8 := B.f 8 rfl; have o9 := B.c 9 rfl; have f9 := B.f 9 rfl; have o10 := B.c 10 rfl; have f10 := B.f 10 rfl; have o11 := B.c 11 rfl; have f11 := B.f 11 rfl; have ol := B.lt
    clear B
    go_wp2
    refine bodyPost_ret (v := PV a b c) (by simp [results, Try.results23, go_sem, o0, o1, o2, o3, o4, o5, o6, o7, o8, o9, o10, o11]) rfl ?_
    exact pt_done hg R K ta tb tc
  · clear x0 x1
    go_wp2_with fail
    refine (once_any 4 (by decide) (by decide) g ao n cap cs _ R).mono ?_
    rintro e w2 ⟨_, rfl, ⟨bb, rfl⟩, R1, K1⟩
    replace B := B.kept K1 hne; replace K := K.trans K1
    clear R K1
    have R := R1
    clear R1
    cases bb
    · go_wp2_with fail
      refine (word_any g ao n cap cs _ R).mono ?_
      rintro e w3 ⟨_, rfl, ⟨y, rfl, y0, y1⟩, R1, K1⟩
      replace B := B.kept K1 hne; replace K := K.trans K1
      clear R K1
      have R := R1
      clear R1
      go_wp2_with fail
      refine (SO _ _ (by first | omega | (unfold wrap64; omega)) (by first | omega | (unfold wrap64; omega))).mono ?_
      rintro e w4 ⟨rfl, hB⟩
      replace R := R.step hB; replace B := B.step hB; replace K := K.trans (Kept.of hB)
      clear hB
      go_wp2_with fail
      refine (word_any g ao n cap cs _ R).mono ?_
      rintro e w5 ⟨_, rfl, ⟨y', rfl, y0', y1'⟩, R1, K1⟩
      replace B := B.kept K1 hne; replace K := K.trans K1
      clear R K1
      have R := R1
      clear R1
      go_wp2_with fail
      refine (SO _ _ (by first | omega | (unfold wrap64; omega)) (by first | omega | (unfold wrap64; omega))).mono ?_
      rintro e w6 ⟨rfl, hB⟩
      replace R := R.step hB; replace B := B.step hB; replace K := K.trans (Kept.of hB)
      clear hB
      go_wp2_with fail
      refine (word_any g ao n cap cs _ R).mono ?_
      rintro e w7 ⟨_, rfl, ⟨y2, rfl, y20, y21⟩, R1, K1⟩
      replace B := B.kept K1 hne; replace K := K.trans K1
      clear R K1
      have R := R1
      clear R1
      go_wp2_with fail
      refine (SO _ _ (by first | omega | (unfold wrap64; omega)) (by first | omega | (unfold wrap64; omega))).mono ?_
      rintro e w8 ⟨rfl, hB⟩
      replace R := R.step hB; replace B := B.step hB; replace K := K.trans (Kept.of hB)
      clear hB
      have PM := fun w => specPointMake_det (wrap64 y) (wrap64 y') (wrap64 (1 + y2 / 2)) (told_w _) (told_w _) (told_w _) w
      obtain ⟨a, b, c, tt, hpm, ta, tb, tc⟩ := pmV_pt (wrap64 y) (wrap64 y') (wrap64 (1 + y2 / 2))
      rw [hpm] at PM
      clear hpm
      go_wp2_with fail
      refine (PM _).mono ?_
      rintro e w9 ⟨rfl, hB⟩
      replace R := R.step hB; replace B := B.step hB; replace K := K.trans (Kept.of hB)
      clear hB
      clear PM
      replace R := R.alloc (.cells #[.int .u64 (ww3 a), .int .u64 (ww2 a), .int .u64 (ww1 a), .int .u64 (ww0 a), .int .u64 (ww3 b), .int .u64 (ww2 b), .int .u64 (ww1 b), .int .u64 (ww0 b), .int .u64 (ww3 c), .int .u64 (ww2 c), .int .u64 (ww1 c), .int .u64 (ww0 c)] 28); replace B := B.alloc (.cells #[.int .u64 (ww3 a), .int .u64 (ww2 a), .int .u64 (ww1 a), .int .u64 (ww0 a), .int .u64 (ww3 b), .int .u64 (ww2 b), .int .u64 (ww1 b), .int .u64 (ww0 b), .int .u64 (ww3 c), .int .u64 (ww2 c), .int .u64 (ww1 c), .int .u64 (ww0 c)] 28); replace K := K.alloc (.cells #[.int .u64 (ww3 a), .int .u64 (ww2 a), .int .u64 (ww1 a), .int .u64 (ww0 a), .int .u64 (ww3 b), .int .u64 (ww2 b), .int .u64 (ww1 b), .int .u64 (ww0 b), .int .u64 (ww3 c), .int .u64 (ww2 c), .int .u64 (ww1 c), .int .u64 (ww0 c)] 28)
      have o0 := B.c 0 rfl; have f0 := B.f 0 rfl; have o1 := B.c 1 rfl; have f1 := B.f 1 rfl; have o2 := B.c 2 rfl; have f2 := B.f 2 rfl; have o3 := B.c 3 rfl; have f3 := B.f 3 rfl; have o4 := B.c 4 rfl; have f4 := B.f 4 rfl; have o5 := B.c 5 rfl; have f5 := B.f 5 rfl; have o6 := B.c 6 rfl; have f6 := B.f 6 rfl; have o7 := B.c 7 rfl; have f7 := B.f 7 rfl; have o8 := B.c 8 rfl; have f8 := B.f 8 rfl; have o9 := B.c 9 rfl; have f9 := B.f 9 rfl; have o10 := B.c 10 rfl; have f10 := B.f 10 rfl; have o11 := B.c 11 rfl; have f11 := B.f 11 rfl; have ol := B.lt
      clear B
      go_wp2
      refine bodyPost_ret (v := PV a b c) (by simp [results, Try.results23, go_sem, o0, o1, o2, o3, o4, o5, o6, o7, o8, o9, o10, o11]) rfl ?_
      exact pt_done hg R K ta tb tc
    · clear SO
      go_wp2_with fail
      refine (wide_any g ao n cap cs _ R).mono ?_
      rintro e w3 ⟨v_, rfl, hv, R1, K1⟩
      replace B := B.kept K1 hne; replace K := K.trans K1
      clear R K1
      have R := R1
      clear R1
      obtain ⟨a, rfl, ta⟩ := wide_W4 hv
      clear hv
      go_wp2_with fail
      refine (wide_any g ao n cap cs _ R).mono ?_
      rintro e w4 ⟨v_, rfl, hv, R1, K1⟩
      replace B := B.kept K1 hne; replace K := K.trans K1
      clear R K1
      have R := R1
      clear R1
      obtain ⟨b, rfl, tb⟩ := wide_W4 hv
      clear hv
      go_wp2_with fail
      refine (wide_any g ao n cap cs _ R).mono ?_
      rintro e w5 ⟨v_, rfl, hv, R1, K1⟩
      replace B := B.kept K1 hne; replace K := K.trans K1
      clear R K1
      have R := R1
      clear R1
      obtain ⟨c, rfl, tc⟩ := wide_W4 hv
      clear hv
      have o0 := B.c 0 rfl; have f0 := B.f 0 rfl; have o1 := B.c 1 rfl; have f1 := B.f 1 rfl; have o2 := B.c 2 rfl; have f2 := B.f 2 rfl; have o3 := B.c 3 rfl; have f3 := B.f 3 rfl; have o4 := B.c 4 rfl; have f4 := B.f 4 rfl; have o5 := B.c 5 rfl; have f5 := B.f 5 rfl; have o6 := B.c 6 rfl; have f6 := B.f 6 rfl; have o7 := B.c 7 rfl; have f7 := B.f 7 rfl; have o8 := B.c 8 rfl; have f8 := B.f 8 rfl; have o9 := B.c 9 rfl; have f9 := B.f 9 rfl; have o10 := B.c 10 rfl; have f10 := B.f 10 rfl; have o11 := B.c 11 rfl; have f11 := B.f 11 rfl; have ol := B.lt
      clear B
      go_wp2
      refine bodyPost_ret (v := PV a b c) (by simp [results, Try.results23, go_sem, o0, o1, o2, o3, o4, o5, o6, o7, o8, o9, o10, o11]) rfl ?_
      exact pt_done hg R K ta tb tc
  · rcases hx with rfl | rfl | rfl
    · clear x0 x1
      go_wp2_with fail
      refine (near_p40 g ao n cap cs _ R).mono ?_
      rintro e w2 ⟨_, rfl, ⟨y, rfl, y0, y1⟩, R1, K1⟩
      replace B := B.kept K1 hne; replace K := K.trans K1
      clear R K1
      have R := R1
      clear R1
      go_wp2_with fail
      refine (SO _ _ (by first | omega | (unfold wrap64; omega)) (by first | omega | (unfold wrap64; omega))).mono ?_
      rintro e w3 ⟨rfl, hB⟩
      replace R := R.step hB; replace B := B.step hB; replace K := K.trans (Kept.of hB)
      clear hB
      go_wp2_with fail
      refine (near_p40 g ao n cap cs _ R).mono ?_
      rintro e w4 ⟨_, rfl, ⟨y', rfl, y0', y1'⟩, R1, K1⟩
      replace B := B.kept K1 hne; replace K := K.trans K1
      clear R K1
      have R := R1
      clear R1
      go_wp2_with fail
      refine (SO _ _ (by first | omega | (unfold wrap64; omega)) (by first | omega | (unfold wrap64; omega))).mono ?_
      rintro e w5 ⟨rfl, hB⟩
      replace R := R.step hB; replace B := B.step hB; replace K := K.trans (Kept.of hB)
      clear hB
      go_wp2_with fail
      refine (near_p9 g ao n cap cs _ R).mono ?_
      rintro e w6 ⟨_, rfl, ⟨y2, rfl, y20, y21⟩, R1, K1⟩
      replace B := B.kept K1 hne; replace K := K.trans K1
      clear R K1
      have R := R1
      clear R1
      go_wp2_with fail
      refine (SO _ _ (by first | omega | (unfold wrap64; omega)) (by first | omega | (unfold wrap64; omega))).mono ?_
      rintro e w7 ⟨rfl, hB⟩
      replace R := R.step hB; replace B := B.step hB; replace K := K.trans (Kept.of hB)
      clear hB
      have PM := fun w => specPointMake_det y y' (1 + y2) (told_small (small_int (by omega) (by omega))) (told_small (small_int (by omega) (by omega))) (told_small (small_int (by omega) (by omega))) w
      obtain ⟨a, b, c, tt, hpm, ta, tb, tc⟩ := pmV_pt y y' (1 + y2)
      rw [hpm] at PM
      clear hpm
      go_wp2_with fail
      refine (PM _).mono ?_
      rintro e w8 ⟨rfl, hB⟩
      replace R := R.step hB; replace B := B.step hB; replace K := K.trans (Kept.of hB)
      clear hB
      clear PM
      replace R := R.alloc (.cells #[.int .u64 (ww3 a), .int .u64 (ww2 a), .int .u64 (ww1 a), .int .u64 (ww0 a), .int .u64 (ww3 b), .int .u64 (ww2 b), .int .u64 (ww1 b), .int .u64 (ww0 b), .int .u64 (ww3 c), .int .u64 (ww2 c), .int .u64 (ww1 c), .int .u64 (ww0 c)] 28); replace B := B.alloc (.cells #[.int .u64 (ww3 a), .int .u64 (ww2 a), .int .u64 (ww1 a), .int .u64 (ww0 a), .int .u64 (ww3 b), .int .u64 (ww2 b), .int .u64 (ww1 b), .int .u64 (ww0 b), .int .u64 (ww3 c), .int .u64 (ww2 c), .int .u64 (ww1 c), .int .u64 (ww0 c)] 28); replace K := K.alloc (.cells #[.int .u64 (ww3 a), .int .u64 (ww2 a), .int .u64 (ww1 a), .int .u64 (ww0 a), .int .u64 (ww3 b), .int .u64 (ww2 b), .int .u64 (ww1 b), .int .u64 (ww0 b), .int .u64 (ww3 c), .int .u64 (ww2 c), .int .u64 (ww1 c), .int .u64 (ww0 c)] 28)
      have o0 := B.c 0 rfl; have f0 := B.f 0 rfl; have o1 := B.c 1 rfl; have f1 := B.f 1 rfl; have o2 := B.c 2 rfl; have f2 := B.f 2 rfl; have o3 := B.c 3 rfl; have f3 := B.f 3 rfl; have o4 := B.c 4 rfl; have f4 := B.f 4 rfl; have o5 := B.c 5 rfl; have f5 := B.f 5 rfl; have o6 := B.c 6 rfl; have f6 := B.f 6 rfl; have o7 := B.c 7 rfl; have f7 := B.f 7 rfl; have o8 := B.c 8 rfl; have f8 := B.f 8 rfl; have o9 := B.c 9 rfl; have f9 := B.f 9 rfl; have o10 := B.c 10 rfl; have f10 := B.f 10 rfl; have o11 := B.c 11 rfl; have f11 := B.f 11 rfl; have ol := B.lt
      clear B
      go_wp2
      refine bodyPost_ret (v := PV a b c) (by simp [results, Try.results23, go_sem, o0, o1, o2, o3, o4, o5, o6, o7, o8, o9, o10, o11]) rfl ?_
      exact pt_done hg R K ta tb tc
    · clear x0 x1
      go_wp2_with fail
      refine (near_p40 g ao n cap cs _ R).mono ?_
      rintro e w2 ⟨_, rfl, ⟨y, rfl, y0, y1⟩, R1, K1⟩
      replace B := B.kept K1 hne; replace K := K.trans K1
      clear R K1
      have R := R1
      clear R1
      go_wp2_with fail
      refine (SO _ _ (by first | omega | (unfold wrap64; omega)) (by first | omega | (unfold wrap64; omega))).mono ?_
      rintro e w3 ⟨rfl, hB⟩
      replace R := R.step hB; replace B := B.step hB; replace K := K.trans (Kept.of hB)
      clear hB
      go_wp2_with fail
      refine (near_p40 g ao n cap cs _ R).mono ?_
      rintro e w4 ⟨_, rfl, ⟨y', rfl, y0', y1'⟩, R1, K1⟩
      replace B := B.kept K1 hne; replace K := K.trans K1
      clear R K1
      have R := R1
      clear R1
      go_wp2_with fail
      refine (SO _ _ (by first | omega | (unfold wrap64; omega)) (by first | omega | (unfold wrap64; omega))).mono ?_
      rintro e w5 ⟨rfl, hB⟩
      replace R := R.step hB; replace B := B.step hB; replace K := K.trans (Kept.of hB)
      clear hB
      go_wp2_with fail
      refine (near_p9 g ao n cap cs _ R).mono ?_
      rintro e w6 ⟨_, rfl, ⟨y2, rfl, y20, y21⟩, R1, K1⟩
      replace B := B.kept K1 hne; replace K := K.trans K1
      clear R K1
      have R := R1
      clear R1
      go_wp2_with fail
      refine (SO _ _ (by first | omega | (unfold wrap64; omega)) (by first | omega | (unfold wrap64; omega))).mono ?_
      rintro e w7 ⟨rfl, hB⟩
      replace R := R.step hB; replace B := B.step hB; replace K := K.trans (Kept.of hB)
      clear hB
      have PM := fun w => specPointMake_det y y' (1 + y2) (told_small (small_int (by omega) (by omega))) (told_small (small_int (by omega) (by omega))) (told_small (small_int (by omega) (by omega))) w
      obtain ⟨a, b, c, tt, hpm, ta, tb, tc⟩ := pmV_pt y y' (1 + y2)
      rw [hpm] at PM
      clear hpm
      go_wp2_with fail
      refine (PM _).mono ?_
      rintro e w8 ⟨rfl, hB⟩
      replace R := R.step hB; replace B := B.step hB; replace K := K.trans (Kept.of hB)
      clear hB
      clear PM
      replace R := R.alloc (.cells #[.int .u64 (ww3 a), .int .u64 (ww2 a), .int .u64 (ww1 a), .int .u64 (ww0 a), .int .u64 (ww3 b), .int .u64 (ww2 b), .int .u64 (ww1 b), .int .u64 (ww0 b), .int .u64 (ww3 c), .int .u64 (ww2 c), .int .u64 (ww1 c), .int .u64 (ww0 c)] 28); replace B := B.alloc (.cells #[.int .u64 (ww3 a), .int .u64 (ww2 a), .int .u64 (ww1 a), .int .u64 (ww0 a), .int .u64 (ww3 b), .int .u64 (ww2 b), .int .u64 (ww1 b), .int .u64 (ww0 b), .int .u64 (ww3 c), .int .u64 (ww2 c), .int .u64 (ww1 c), .int .u64 (ww0 c)] 28); replace K := K.alloc (.cells #[.int .u64 (ww3 a), .int .u64 (ww2 a), .int .u64 (ww1 a), .int .u64 (ww0 a), .int .u64 (ww3 b), .int .u64 (ww2 b), .int .u64 (ww1 b), .int .u64 (ww0 b), .int .u64 (ww3 c), .int .u64 (ww2 c), .int .u64 (ww1 c), .int .u64 (ww0 c)] 28)
      have o0 := B.c 0 rfl; have f0 := B.f 0 rfl; have o1 := B.c 1 rfl; have f1 := B.f 1 rfl; have o2 := B.c 2 rfl; have f2 := B.f 2 rfl; have o3 := B.c 3 rfl; have f3 := B.f 3 rfl; have o4 := B.c 4 rfl; have f4 := B.f 4 rfl; have o5 := B.c 5 rfl; have f5 := B.f 5 rfl; have o6 := B.c 6 rfl; have f6 := B.f 6 rfl; have o7 := B.c 7 rfl; have f7 := B.f 7 rfl; have o8 := B.c 8 rfl; have f8 := B.f 8 rfl; have o9 := B.c 9 rfl; have f9 := B.f 9 rfl; have o10 := B.c 10 rfl; have f10 := B.f 10 rfl; have o11 := B.c 11 rfl; have f11 := B.f 11 rfl; have ol := B.lt
      clear B
      go_wp2
      refine bodyPost_ret (v := PV a b c) (by simp [results, Try.results23, go_sem, o0, o1, o2, o3, o4, o5, o6, o7, o8, o9, o10, o11]) rfl ?_
      exact pt_done hg R K ta tb tc
    · clear x0 x1
      go_wp2_with fail
      refine (near_p40 g ao n cap cs _ R).mono ?_
      rintro e w2 ⟨_, rfl, ⟨y, rfl, y0, y1⟩, R1, K1⟩
      replace B := B.kept K1 hne; replace K := K.trans K1
      clear R K1
      have R := R1
      clear R1
      go_wp2_with fail
      refine (SO _ _ (by first | omega | (unfold wrap64; omega)) (by first | omega | (unfold wrap64; omega))).mono ?_
      rintro e w3 ⟨rfl, hB⟩
      replace R := R.step hB; replace B := B.step hB; replace K := K.trans (Kept.of hB)
      clear hB
      go_wp2_with fail
      refine (near_p40 g ao n cap cs _ R).mono ?_
      rintro e w4 ⟨_, rfl, ⟨y', rfl, y0', y1'⟩, R1, K1⟩
      replace B := B.kept K1 hne; replace K := K.trans K1
      clear R K1
      have R := R1
      clear R1
      go_wp2_with fail
      refine (SO _ _ (by first | omega | (unfold wrap64; omega)) (by first | omega | (unfold wrap64; omega))).mono ?_
      rintro e w5 ⟨rfl, hB⟩
      replace R := R.step hB; replace B := B.step hB; replace K := K.trans (Kept.of hB)
      clear hB
      go_wp2_with fail
      refine (near_p9 g ao n cap cs _ R).mono ?_
      rintro e w6 ⟨_, rfl, ⟨y2, rfl, y20, y21⟩, R1, K1⟩
      replace B := B.kept K1 hne; replace K := K.trans K1
      clear R K1
      have R := R1
      clear R1
      go_wp2_with fail
      refine (SO _ _ (by first | omega | (unfold wrap64; omega)) (by first | omega | (unfold wrap64; omega))).mono ?_
      rintro e w7 ⟨rfl, hB⟩
      replace R := R.step hB; replace B := B.step hB; replace K := K.trans (Kept.of hB)
      clear hB
      have PM := fun w => specPointMake_det y y' (1 + y2) (told_small (small_int (by omega) (by omega))) (told_small (small_int (by omega) (by omega))) (told_small (small_int (by omega) (by omega))) w
      obtain ⟨a, b, c, tt, hpm, ta, tb, tc⟩ := pmV_pt y y' (1 + y2)
      rw [hpm] at PM
      clear hpm
      go_wp2_with fail
      refine (PM _).mono ?_
      rintro e w8 ⟨rfl, hB⟩
      replace R := R.step hB; replace B := B.step hB; replace K := K.trans (Kept.of hB)
      clear hB
      clear PM
      replace R := R.alloc (.cells #[.int .u64 (ww3 a), .int .u64 (ww2 a), .int .u64 (ww1 a), .int .u64 (ww0 a), .int .u64 (ww3 b), .int .u64 (ww2 b), .int .u64 (ww1 b), .int .u64 (ww0 b), .int .u64 (ww3 c), .int .u64 (ww2 c), .int .u64 (ww1 c), .int .u64 (ww0 c)] 28); replace B := B.alloc (.cells #[.int .u64 (ww3 a), .int .u64 (ww2 a), .int .u64 (ww1 a), .int .u64 (ww0 a), .int .u64 (ww3 b), .int .u64 (ww2 b), .int .u64 (ww1 b), .int .u64 (ww0 b), .int .u64 (ww3 c), .int .u64 (ww2 c), .int .u64 (ww1 c), .int .u64 (ww0 c)] 28); replace K := K.alloc (.cells #[.int .u64 (ww3 a), .int .u64 (ww2 a), .int .u64 (ww1 a), .int .u64 (ww0 a), .int .u64 (ww3 b), .int .u64 (ww2 b), .int .u64 (ww1 b), .int .u64 (ww0 b), .int .u64 (ww3 c), .int .u64 (ww2 c), .int .u64 (ww1 c), .int .u64 (ww0 c)] 28)
      have o0 := B.c 0 rfl; have f0 := B.f 0 rfl; have o1 := B.c 1 rfl; have f1 := B.f 1 rfl; have o2 := B.c 2 rfl; have f2 := B.f 2 rfl; have o3 := B.c 3 rfl; have f3 := B.f 3 rfl; have o4 := B.c 4 rfl; have f4 := B.f 4 rfl; have o5 := B.c 5 rfl; have f5 := B.f 5 rfl; have o6 := B.c 6 rfl; have f6 := B.f 6 rfl; have o7 := B.c 7 rfl; have f7 := B.f 7 rfl; have o8 := B.c 8 rfl; have f8 := B.f 8 rfl; have o9 := B.c 9 rfl; have f9 := B.f 9 rfl; have o10 := B.c 10 rfl; have f10 := B.f 10 rfl; have o11 := B.c 11 rfl; have f11 := B.f 11 rfl; have ol := B.lt
      clear B
      go_wp2
      refine bodyPost_ret (v := PV a b c) (by simp [results, Try.results23, go_sem, o0, o1, o2, o3, o4, o5, o6, o7, o8, o9, o10, o11]) rfl ?_
      exact pt_done hg R K ta tb tc
  · clear SO x0 x1
    go_wp2_with fail
    refine (near_pm g ao n cap cs _ R).mono ?_
    rintro e w2 ⟨_, rfl, ⟨y, rfl, y0, y1⟩, R1, K1⟩
    replace B := B.kept K1 hne; replace K := K.trans K1
    clear R K1
    have R := R1
    clear R1
    go_wp2_with fail
    refine (near_pm g ao n cap cs _ R).mono ?_
    rintro e w3 ⟨_, rfl, ⟨y', rfl, y0', y1'⟩, R1, K1⟩
    replace B := B.kept K1 hne; replace K := K.trans K1
    clear R K1
    have R := R1
    clear R1
    go_wp2_with fail
    refine (specPointOf_any y y' (by omega) (by omega) (by omega) (by omega) _).mono ?_
    rintro e w4 ⟨rfl, hB⟩
    replace R := R.step hB; replace B := B.step hB; replace K := K.trans (Kept.of hB)
    clear hB
    have o0 := B.c 0 rfl; have f0 := B.f 0 rfl; have o1 := B.c 1 rfl; have f1 := B.f 1 rfl; have o2 := B.c 2 rfl; have f2 := B.f 2 rfl; have o3 := B.c 3 rfl; have f3 := B.f 3 rfl; have o4 := B.c 4 rfl; have f4 := B.f 4 rfl; have o5 := B.c 5 rfl; have f5 := B.f 5 rfl; have o6 := B.c 6 rfl; have f6 := B.f 6 rfl; have o7 := B.c 7 rfl; have f7 := B.f 7 rfl; have o8 := B.c 8 rfl; have f8 := B.f 8 rfl; have o9 := B.c 9 rfl; have f9 := B.f 9 rfl; have o10 := B.c 10 rfl; have f10 := B.f 10 rfl; have o11 := B.c 11 rfl; have f11 := B.f 11 rfl; have ol := B.lt
    clear B
    go_wp2
    refine bodyPost_ret (v := PV y y' 1) (by simp [results, Try.results23, go_sem, o0, o1, o2, o3, o4, o5, o6, o7, o8, o9, o10, o11]) rfl ?_
    exact pt_done hg R K (told_small (small_int (by omega) (by omega))) (told_small (small_int (by omega) (by omega))) (by decide)
  · clear SO x0 x1
    rcases hx with rfl | rfl | rfl | rfl
    all_goals (
      go_wp2_with fail
      refine (spot_any g ao n cap cs _ R).mono ?_
      rintro e w2 ⟨_, rfl, ⟨y, y', rfl, y0, y1, y0', y1'⟩, R1, K1⟩
      replace B := B.kept K1 hne; replace K := K.trans K1
      clear R K1
      have R := R1
      clear R1
      go_wp2_with fail
      refine (specPointOf_any y y' (by omega) (by omega) (by omega) (by omega) _).mono ?_
      rintro e w3 ⟨rfl, hB⟩
      replace R := R.step hB; replace B := B.step hB; replace K := K.trans (Kept.of hB)
      clear hB
      have o0 := B.c 0 rfl; have f0 := B.f 0 rfl; have o1 := B.c 1 rfl; have f1 := B.f 1 rfl; have o2 := B.c 2 rfl; have f2 := B.f 2 rfl; have o3 := B.c 3 rfl; have f3 := B.f 3 rfl; have o4 := B.c 4 rfl; have f4 := B.f 4 rfl; have o5 := B.c 5 rfl; have f5 := B.f 5 rfl; have o6 := B.c 6 rfl; have f6 := B.f 6 rfl; have o7 := B.c 7 rfl; have f7 := B.f 7 rfl; have o8 := B.c 8 rfl; have f8 := B.f 8 rfl; have o9 := B.c 9 rfl; have f9 := B.f 9 rfl; have o10 := B.c 10 rfl; have f10 := B.f 10 rfl; have o11 := B.c 11 rfl; have f11 := B.f 11 rfl; have ol := B.lt
      clear B
      go_wp2
      refine bodyPost_ret (v := PV y y' 1) (by simp [results, Try.results23, go_sem, o0, o1, o2, o3, o4, o5, o6, o7, o8, o9, o10, o11]) rfl ?_
      exact pt_done hg R K (told_small (small_int (by omega) (by omega))) (told_small (small_int (by omega) (by omega))) (by decide))
end Go.Proofs.Ytgmenloipiedeaa
