/- Part 12 of the walks that the proof leans on. -/
import Derived.Test.YtgmenloipiedeaaPart11
/- Points drawn from a code: the walks. -/
namespace Go.Proofs.Ytgmenloipiedeaa
open Go.RowKit
theorem pt_done {w W : World} {g : Nat} {ao : Option Addr} {n cap : Nat} {cs : List Int} {a b c : Int} (hg : g < w.heap.size) (R : Rdr W g ao n cap cs) (K : Kept g w W) (ta : told a = true) (tb : told b = true) (tc : told c = true) {v0 v1 v2 v3 v4 v5 v6 v7 v8 v9 v10 v11 : Value} :
    RdP g ao n cap cs IsPt w (.returned (PV a b c)) ((((((((((((W.setCell ⟨w.heap.size, 0, none⟩ v0).setCell ⟨w.heap.size, 1, none⟩ v1).setCell ⟨w.heap.size, 2, none⟩ v2).setCell ⟨w.heap.size, 3, none⟩ v3).setCell ⟨w.heap.size, 4, none⟩ v4).setCell ⟨w.heap.size, 5, none⟩ v5).setCell ⟨w.heap.size, 6, none⟩ v6).setCell ⟨w.heap.size, 7, none⟩ v7).setCell ⟨w.heap.size, 8, none⟩ v8).setCell ⟨w.heap.size, 9, none⟩ v9).setCell ⟨w.heap.size, 10, none⟩ v10).setCell ⟨w.heap.size, 11, none⟩ v11) := by
  refine ⟨_, rfl, ⟨a, b, c, rfl, ta, tb, tc⟩, ?_, ?_⟩
  · repeat' (refine Rdr.setN ?_ (by exact hg) _)
    exact R
  · repeat' (refine Kept.setN ?_ (by simp) (by simp; omega) _)
    exact K
theorem told_w (n : Int) : told (wrap64 n) = true := told_small (small_int (by unfold wrap64; omega) (by unfold wrap64; omega))
theorem specOfW (n : Int) (w : World) (h0 : -9223372036854775808 ≤ n) (h1 : n ≤ 9223372036854775807) : Calls Try.prog 55 #[.int .i64 n] w (VP (W4 n) w) := by
  refine (specOf_any n w h0 h1).mono ?_
  rintro e w' ⟨a3, a2, a1, a0, rfl, g3, g2, g1, g0, hs, hB⟩
  obtain ⟨rfl, rfl, rfl, rfl⟩ := wd_of g3 g2 g1 g0 hs
  exact ⟨rfl, hB⟩
/-- A spot of small numbers. -/
def IsSp6 (v : Value) : Prop := ∃ x y : Int, v = .agg #[.int .i64 x, .int .i64 y] ∧ -6 ≤ x ∧ x < 7 ∧ -6 ≤ y ∧ y < 7
set_option maxRecDepth 100000 in
set_option maxHeartbeats 1000000 in
theorem spot_any (g : Nat) (ao : Option Addr) (n cap : Nat) (cs : List Int) (w : World) (h : Rdr w g ao n cap cs) :
    Calls Try.prog 59 #[.pointer (some ⟨g, 0, none⟩)] w (RdP g ao n cap cs IsSp6 w) := by
  have hg := h.lt
  have hne : w.heap.size ≠ g := by omega
  have B := Blk.new w [.int .i64 0, .int .i64 0] 91 rfl
  have R := h.alloc (.cells #[.int .i64 0, .int .i64 0] 91)
  have K := (Kept.refl g w).alloc (.cells #[.int .i64 0, .int .i64 0] 91)
  clear h
  go_enter Try.func59, Try.ntmps59
  go_wp2_with fail
  refine (near_p6 g ao n cap cs _ R).mono ?_
  rintro e w1 ⟨_, rfl, ⟨y, rfl, y0, y1⟩, R1, K1⟩
  replace B := B.kept K1 hne; replace K := K.trans K1
  clear R K1
  have R := R1
  clear R1
  go_wp2_with fail
  refine (near_p6 g ao n cap cs _ R).mono ?_
  rintro e w2 ⟨_, rfl, ⟨y', rfl, y0', y1'⟩, R1, K1⟩
  replace B := B.kept K1 hne; replace K := K.trans K1
  clear R K1
  have R := R1
  clear R1
  have o0 := B.c 0 rfl; have f0 := B.f 0 rfl; have o1 := B.c 1 rfl; have f1 := B.f 1 rfl; have ol := B.lt
  clear B
  go_wp2
  refine bodyPost_ret (v := .agg #[.int .i64 y, .int .i64 y']) (by simp [results, Try.results59, go_sem, o0, o1]) rfl ?_
  exact ⟨_, rfl, ⟨y, y', rfl, y0, y1, y0', y1'⟩, (R.setN (by exact hg) _).setN (by exact hg) _, (K.setN (by simp) (by simp; omega) _).setN (by simp) (by simp; omega) _⟩
set_option maxRecDepth 100000 in
set_option maxHeartbeats 4000000 in
theorem point_any (g : Nat) (ao : Option Addr) (n cap : Nat) (cs : List Int) (w : World) (h : Rdr w g ao n cap cs) :
    Calls Try.prog 23 #[.pointer (some ⟨g, 0, none⟩)] w (RdP g ao n cap cs IsPt w) := by
  have hg := h.lt
  have hne : w.heap.size ≠ g := by omega
  have B := Blk.new w [.int .u64 0, .int .u64 0, .int .u64 0, .int .u64 0, .int .u64 0, .int .u64 0, .int .u64 0, .int .u64 0, .int .u64 0, .int .u64 0, .int .u64 0, .int .u64 0] 28 rfl
  have R := h.alloc (.cells #[.int .u64 0, .int .u64 0, .int .u64 0, .int .u64 0, .int .u64 0, .int .u64 0, .int .u64 0, .int .u64 0, .int .u64 0, .int .u64 0, .int .u64 0, .int .u64 0] 28)
  have K := (Kept.refl g w).alloc (.cells #[.int .u64 0, .int .u64 0, .int .u64 0, .int .u64 0, .int .u64 0, .int .u64 0, .int .u64 0, .int .u64 0, .int .u64 0, .int .u64 0, .int .u64 0, .int .u64 0] 28)
  have SO := fun n w h0 h1 => specOfW n w h0 h1
  clear h
  go_enter Try.func23, Try.ntmps23
  go_wp2_with fail
  refine (below_any 10 (by decide) (by decide) g ao n cap cs _ R).mono ?_
  rintro e w1 ⟨_, rfl, ⟨x, rfl, x0, x1⟩, R1, K1⟩
  replace B := B.kept K1 hne; replace K := K.trans K1
  clear R K1
  have R := R1
  clear R1
  rcases (by omega : x = 0 ∨ x = 1 ∨ (x = 2 ∨ x = 3 ∨ x = 4) ∨ x = 5 ∨ (x = 6 ∨ x = 7 ∨ x = 8 ∨ x = 9)) with rfl | rfl | hx | rfl | hx
  · clear SO x0 x1
    go_wp2_with fail
    refine (wide_any g ao n cap cs _ R).mono ?_
    rintro e w2 ⟨v_, rfl, hv, R1, K1⟩
    replace B := B.kept K1 hne; replace K := K.trans K1
    clear R K1
    have R := R1
    clear R1
    obtain ⟨xa, rfl, txa⟩ := wide_W4 hv
    clear hv
    go_wp2_with fail
    refine (wide_any g ao n cap cs _ R).mono ?_
    rintro e w3 ⟨v_, rfl, hv, R1, K1⟩
    replace B := B.kept K1 hne; replace K := K.trans K1
    clear R K1
    have R := R1
    clear R1
    obtain ⟨xb, rfl, txb⟩ := wide_W4 hv
    clear hv
    go_wp2_with fail
    refine (wide_any g ao n cap cs _ R).mono ?_
    rintro e w4 ⟨v_, rfl, hv, R1, K1⟩
    replace B := B.kept K1 hne; replace K := K.trans K1
    clear R K1
    have R := R1
    clear R1
    obtain ⟨xc, rfl, txc⟩ := wide_W4 hv
    clear hv
    have PM := fun w => specPointMake_det xa xb xc txa txb txc w
    obtain ⟨a, b, c, tt, hpm, ta, tb, tc⟩ := pmV_pt xa xb xc
    rw [hpm] at PM
    clear hpm
    go_wp2_with fail
    refine (PM _).mono ?_
    rintro e w5 ⟨rfl, hB⟩
    replace R := R.step hB; replace B := B.step hB; replace K := K.trans (Kept.of hB)
    clear hB
    clear PM
    replace R := R.alloc (.cells #[.int .u64 (ww3 a), .int .u64 (ww2 a), .int .u64 (ww1 a), .int .u64 (ww0 a), .int .u64 (ww3 b), .int .u64 (ww2 b), .int .u64 (ww1 b), .int .u64 (ww0 b), .int .u64 (ww3 c), .int .u64 (ww2 c), .int .u64 (ww1 c), .int .u64 (ww0 c)] 28); replace B := B.alloc (.cells #[.int .u64 (ww3 a), .int .u64 (ww2 a), .int .u64 (ww1 a), .int .u64 (ww0 a), .int .u64 (ww3 b), .int .u64 (ww2 b), .int .u64 (ww1 b), .int .u64 (ww0 b), .int .u64 (ww3 c), .int .u64 (ww2 c), .int .u64 (ww1 c), .int .u64 (ww0 c)] 28); replace K := K.alloc (.cells #[.int .u64 (ww3 a), .int .u64 (ww2 a), .int .u64 (ww1 a), .int .u64 (ww0 a), .int .u64 (ww3 b), .int .u64 (ww2 b), .int .u64 (ww1 b), .int .u64 (ww0 b), .int .u64 (ww3 c), .int .u64 (ww2 c), .int .u64 (ww1 c), .int .u64 (ww0 c)] 28)
    have o0 := B.c 0 rfl; have f0 := B.f 0 rfl; have o1 := B.c 1 rfl; have f1 := B.f 1 rfl; have o2 := B.c 2 rfl; have f2 := B.f 2 rfl; have o3 := B.c 3 rfl; have f3 := B.f 3 rfl; have o4 := B.c 4 rfl; have f4 := B.f 4 rfl; have o5 := B.c 5 rfl; have f5 := B.f 5 rfl; have o6 := B.c 6 rfl; have f6 := B.f 6 rfl; have o7 := B.c 7 rfl; have f7 := B.f 7 rfl; have o8 := B.c 8 rfl; have f8 := B.f 8 rfl; have o9 := B.c 9 rfl; have f9 := B.f 9 rfl; have o10 := B.c 10 rfl; have f10 := B.f 10 rfl; have o11 := B.c 11 rfl; have f11 := B.f 11 rfl; have ol := B.lt
    clear B
    go_wp2
    refine bodyPost_ret (v := PV a b c) (by simp [results, Try.results23, go_sem, o0, o1, o2, o3, o4, o5, o6, o7, o8, o9, o10, o11]) rfl ?_
    exact pt_done hg R K ta tb tc
  · clear x0 x1
    go_wp2_with fail
    refine (once_any 4 (by decide) (by decide) g ao n cap cs _ R).mono ?_
    rintro e w2 ⟨_, rfl, ⟨bb, rfl⟩, R1, K1⟩
    replace B := B.kept K1 hne; replace K := K.trans K1
    clear R K1
    have R := R1
    clear R1
    cases bb
    · go_wp2_with fail
      refine (word_any g ao n cap cs _ R).mono ?_
      rintro e w3 ⟨_, rfl, ⟨y, rfl, y0, y1⟩, R1, K1⟩
      replace B := B.kept K1 hne; replace K := K.trans K1
      clear R K1
      have R := R1
      clear R1
      go_wp2_with fail
      refine (SO _ _ (by first | omega | (unfold wrap64; omega)) (by first | omega | (unfold wrap64; omega))).mono ?_
      rintro e w4 ⟨rfl, hB⟩
      replace R := R.step hB; replace B := B.step hB; replace K := K.trans (Kept.of hB)
      clear hB
      go_wp2_with fail
      refine (word_any g ao n cap cs _ R).mono ?_
      rintro e w5 ⟨_, rfl, ⟨y', rfl, y0', y1'⟩, R1, K1⟩
      replace B := B.kept K1 hne; replace K := K.trans K1
      clear R K1
      have R := R1
      clear R1
      go_wp2_with fail
      refine (SO _ _ (by first | omega | (unfold wrap64; omega)) (by first | omega | (unfold wrap64; omega))).mono ?_
      rintro e w6 ⟨rfl, hB⟩
      replace R := R.step hB; replace B := B.step hB; replace K := K.trans (Kept.of hB)
      clear hB
      go_wp2_with fail
      refine (word_any g ao n cap cs _ R).mono ?_
      rintro e w7 ⟨_, rfl, ⟨y2, rfl, y20, y21⟩, R1, K1⟩
      replace B := B.kept K1 hne; replace K := K.trans K1
      clear R K1
      have R := R1
      clear R1
      go_wp2_with fail
      refine (SO _ _ (by first | omega | (unfold wrap64; omega)) (by first | omega | (unfold wrap64; omega))).mono ?_
      rintro e w8 ⟨rfl, hB⟩
      replace R := R.step hB; replace B := B.step hB; replace K := K.trans (Kept.of hB)
      clear hB
      have PM := fun w => specPointMake_det (wrap64 y) (wrap64 y') (wrap64 (1 + y2 / 2)) (told_w _) (told_w _) (told_w _) w
      obtain ⟨a, b, c, tt, hpm, ta, tb, tc⟩ := pmV_pt (wrap64 y) (wrap64 y') (wrap64 (1 + y2 / 2))
      rw [hpm] at PM
      clear hpm
      go_wp2_with fail
      refine (PM _).mono ?_
      rintro e w9 ⟨rfl, hB⟩
      replace R := R.step hB; replace B := B.step hB; replace K := K.trans (Kept.of hB)
      clear hB
      clear PM
      replace R := R.alloc (.cells #[.int .u64 (ww3 a), .int .u64 (ww2 a), .int .u64 (ww1 a), .int .u64 (ww0 a), .int .u64 (ww3 b), .int .u64 (ww2 b), .int .u64 (ww1 b), .int .u64 (ww0 b), .int .u64 (ww3 c), .int .u64 (ww2 c), .int .u64 (ww1 c), .int .u64 (ww0 c)] 28); replace B := B.alloc (.cells #[.int .u64 (ww3 a), .int .u64 (ww2 a), .int .u64 (ww1 a), .int .u64 (ww0 a), .int .u64 (ww3 b), .int .u64 (ww2 b), .int .u64 (ww1 b), .int .u64 (ww0 b), .int .u64 (ww3 c), .int .u64 (ww2 c), .int .u64 (ww1 c), .int .u64 (ww0 c)] 28); replace K := K.alloc (.cells #[.int .u64 (ww3 a), .int .u64 (ww2 a), .int .u64 (ww1 a), .int .u64 (ww0 a), .int .u64 (ww3 b), .int .u64 (ww2 b), .int .u64 (ww1 b), .int .u64 (ww0 b), .int .u64 (ww3 c), .int .u64 (ww2 c), .int .u64 (ww1 c), .int .u64 (ww0 c)] 28)
      have o0 := B.c 0 rfl; have f0 := B.f 0 rfl; have o1 := B.c 1 rfl; have f1 := B.f 1 rfl; have o2 := B.c 2 rfl; have f2 := B.f 2 rfl; have o3 := B.c 3 rfl; have f3 := B.f 3 rfl; have o4 := B.c 4 rfl; have f4 := B.f 4 rfl; have o5 := B.c 5 rfl; have f5 := B.f 5 rfl; have o6 := B.c 6 rfl; have f6 := B.f 6 rfl; have o7 := B.c 7 rfl; have f7 := B.f 7 rfl; have o8 := B.c 8 rfl; have f8 := B.f 8 rfl; have o9 := B.c 9 rfl; have f9 := B.f 9 rfl; have o10 := B.c 10 rfl; have f10 := B.f 10 rfl; have o11 := B.c 11 rfl; have f11 := B.f 11 rfl; have ol := B.lt
      clear B
      go_wp2
      refine bodyPost_ret (v := PV a b c) (by simp [results, Try.results23, go_sem, o0, o1, o2, o3, o4, o5, o6, o7, o8, o9, o10, o11]) rfl ?_
      exact pt_done hg R K ta tb tc
    · clear SO
      go_wp2_with fail
      refine (wide_any g ao n cap cs _ R).mono ?_
      rintro e w3 ⟨v_, rfl, hv, R1, K1⟩
      replace B := B.kept K1 hne; replace K := K.trans K1
      clear R K1
      have R := R1
      clear R1
      obtain ⟨a, rfl, ta⟩ := wide_W4 hv
      clear hv
      go_wp2_with fail
      refine (wide_any g ao n cap cs _ R).mono ?_
      rintro e w4 ⟨v_, rfl, hv, R1, K1⟩
      replace B := B.kept K1 hne; replace K := K.trans K1
      clear R K1
      have R := R1
      clear R1
      obtain ⟨b, rfl, tb⟩ := wide_W4 hv
      clear hv
      go_wp2_with fail
      refine (wide_any g ao n cap cs _ R).mono ?_
      rintro e w5 ⟨v_, rfl, hv, R1, K1⟩
      replace B := B.kept K1 hne; replace K := K.trans K1
      clear R K1
      have R := R1
      clear R1
      obtain ⟨c, rfl, tc⟩ := wide_W4 hv
      clear hv
      have o0 := B.c 0 rfl; have f0 := B.f 0 rfl; have o1 := B.c 1 rfl; have f1 := B.f 1 rfl; have o2 := B.c 2 rfl; have f2 := B.f 2 rfl; have o3 := B.c 3 rfl; have f3 := B.f 3 rfl; have o4 := B.c 4 rfl; have f4 := B.f 4 rfl; have o5 := B.c 5 rfl; have f5 := B.f 5 rfl; have o6 := B.c 6 rfl; have f6 := B.f 6 rfl; have o7 := B.c 7 rfl; have f7 := B.f 7 rfl; have o8 := B.c 8 rfl; have f8 := B.f 8 rfl; have o9 := B.c 9 rfl; have f9 := B.f 9 rfl; have o10 := B.c 10 rfl; have f10 := B.f 10 rfl; have o11 := B.c 11 rfl; have f11 := B.f 11 rfl; have ol := B.lt
      clear B
      go_wp2
      refine bodyPost_ret (v := PV a b c) (by simp [results, Try.results23, go_sem, o0, o1, o2, o3, o4, o5, o6, o7, o8, o9, o10, o11]) rfl ?_
      exact pt_done hg R K ta tb tc
  · rcases hx with rfl | rfl | rfl
    · clear x0 x1
      go_wp2_with fail
      refine (near_p40 g ao n cap cs _ R).mono ?_
      rintro e w2 ⟨_, rfl, ⟨y, rfl, y0, y1⟩, R1, K1⟩
      replace B := B.kept K1 hne; replace K := K.trans K1
      clear R K1
      have R := R1
      clear R1
      go_wp2_with fail
      refine (SO _ _ (by first | omega | (unfold wrap64; omega)) (by first | omega | (unfold wrap64; omega))).mono ?_
      rintro e w3 ⟨rfl, hB⟩
      replace R := R.step hB; replace B := B.step hB; replace K := K.trans (Kept.of hB)
      clear hB
      go_wp2_with fail
      refine (near_p40 g ao n cap cs _ R).mono ?_
      rintro e w4 ⟨_, rfl, ⟨y', rfl, y0', y1'⟩, R1, K1⟩
      replace B := B.kept K1 hne; replace K := K.trans K1
      clear R K1
      have R := R1
      clear R1
      go_wp2_with fail
      refine (SO _ _ (by first | omega | (unfold wrap64; omega)) (by first | omega | (unfold wrap64; omega))).mono ?_
      rintro e w5 ⟨rfl, hB⟩
      replace R := R.step hB; replace B := B.step hB; replace K := K.trans (Kept.of hB)
      clear hB
      go_wp2_with fail
      refine (near_p9 g ao n cap cs _ R).mono ?_
      rintro e w6 ⟨_, rfl, ⟨y2, rfl, y20, y21⟩, R1, K1⟩
      replace B := B.kept K1 hne; replace K := K.trans K1
      clear R K1
      have R := R1
      clear R1
      go_wp2_with fail
      refine (SO _ _ (by first | omega | (unfold wrap64; omega)) (by first | omega | (unfold wrap64; omega))).mono ?_
      rintro e w7 ⟨rfl, hB⟩
      replace R := R.step hB; replace B := B.step hB; replace K := K.trans (Kept.of hB)
      clear hB
      have PM := fun w => specPointMake_det y y' (1 + y2) (told_small (small_int (by omega) (by omega))) (told_small (small_int (by omega) (by omega))) (told_small (small_int (by omega) (by omega))) w
      obtain ⟨a, b, c, tt, hpm, ta, tb, tc⟩ := pmV_pt y y' (1 + y2)
      rw [hpm] at PM
      clear hpm
      go_wp2_with fail
      refine (PM _).mono ?_
      rintro e w8 ⟨rfl, hB⟩
      replace R := R.step hB; replace B := B.step hB; replace K := K.trans (Kept.of hB)
      clear hB
      clear PM
      replace R := R.alloc (.cells #[.int .u64 (ww3 a), .int .u64 (ww2 a), .int .u64 (ww1 a), .int .u64 (ww0 a), .int .u64 (ww3 b), .int .u64 (ww2 b), .int .u64 (ww1 b), .int .u64 (ww0 b), .int .u64 (ww3 c), .int .u64 (ww2 c), .int .u64 (ww1 c), .int .u64 (ww0 c)] 28); replace B := B.alloc (.cells #[.int .u64 (ww3 a), .int .u64 (ww2 a), .int .u64 (ww1 a), .int .u64 (ww0 a), .int .u64 (ww3 b), .int .u64 (ww2 b), .int .u64 (ww1 b), .int .u64 (ww0 b), .int .u64 (ww3 c), .int .u64 (ww2 c), .int .u64 (ww1 c), .int .u64 (ww0 c)] 28); replace K := K.alloc (.cells #[.int .u64 (ww3 a), .int .u64 (ww2 a), .int .u64 (ww1 a), .int .u64 (ww0 a), .int .u64 (ww3 b), .int .u64 (ww2 b), .int .u64 (ww1 b), .int .u64 (ww0 b), .int .u64 (ww3 c), .int .u64 (ww2 c), .int .u64 (ww1 c), .int .u64 (ww0 c)] 28)
      have o0 := B.c 0 rfl; have f0 := B.f 0 rfl; have o1 := B.c 1 rfl; have f1 := B.f 1 rfl; have o2 := B.c 2 rfl; have f2 := B.f 2 rfl; have o3 := B.c 3 rfl; have f3 := B.f 3 rfl; have o4 := B.c 4 rfl; have f4 := B.f 4 rfl; have o5 := B.c 5 rfl; have f5 := B.f 5 rfl; have o6 := B.c 6 rfl; have f6 := B.f 6 rfl; have o7 := B.c 7 rfl; have f7 := B.f 7 rfl; have o8 := B.c 8 rfl; have f8 := B.f 8 rfl; have o9 := B.c 9 rfl; have f9 := B.f 9 rfl; have o10 := B.c 10 rfl; have f10 := B.f 10 rfl; have o11 := B.c 11 rfl; have f11 := B.f 11 rfl; have ol := B.lt
      clear B
      go_wp2
      refine bodyPost_ret (v := PV a b c) (by simp [results, Try.results23, go_sem, o0, o1, o2, o3, o4, o5, o6, o7, o8, o9, o10, o11]) rfl ?_
      exact pt_done hg R K ta tb tc
    · clear x0 x1
      go_wp2_with fail
      refine (near_p40 g ao n cap cs _ R).mono ?_
      rintro e w2 ⟨_, rfl, ⟨y, rfl, y0, y1⟩, R1, K1⟩
      replace B := B.kept K1 hne; replace K := K.trans K1
      clear R K1
      have R := R1
      clear R1
      go_wp2_with fail
      refine (SO _ _ (by first | omega | (unfold wrap64; omega)) (by first | omega | (unfold wrap64; omega))).mono ?_
      rintro e w3 ⟨rfl, hB⟩
      replace R := R.step hB; replace B := B.step hB; replace K := K.trans (Kept.of hB)
      clear hB
      go_wp2_with fail
      refine (near_p40 g ao n cap cs _ R).mono ?_
      rintro e w4 ⟨_, rfl, ⟨y', rfl, y0', y1'⟩, R1, K1⟩
      replace B := B.kept K1 hne; replace K := K.trans K1
      clear R K1
      have R := R1
      clear R1
      go_wp2_with fail
      refine (SO _ _ (by first | omega | (unfold wrap64; omega)) (by first | omega | (unfold wrap64; omega))).mono ?_
      rintro e w5 ⟨rfl, hB⟩
      replace R := R.step hB; replace B := B.step hB; replace K := K.trans (Kept.of hB)
      clear hB
      go_wp2_with fail
      refine (near_p9 g ao n cap cs _ R).mono ?_
      rintro e w6 ⟨_, rfl, ⟨y2, rfl, y20, y21⟩, R1, K1⟩
      replace B := B.kept K1 hne; replace K := K.trans K1
      clear R K1
      have R := R1
      clear R1
      go_wp2_with fail
      refine (SO _ _ (by first | omega | (unfold wrap64; omega)) (by first | omega | (unfold wrap64; omega))).mono ?_
      rintro e w7 ⟨rfl, hB⟩
      replace R := R.step hB; replace B := B.step hB; replace K := K.trans (Kept.of hB)
      clear hB
      have PM := fun w => specPointMake_det y y' (1 + y2) (told_small (small_int (by omega) (by omega))) (told_small (small_int (by omega) (by omega))) (told_small (small_int (by omega) (by omega))) w
      obtain ⟨a, b, c, tt, hpm, ta, tb, tc⟩ := pmV_pt y y' (1 + y2)
      rw [hpm] at PM
      clear hpm
      go_wp2_with fail
      refine (PM _).mono ?_
      rintro e w8 ⟨rfl, hB⟩
      replace R := R.step hB; replace B := B.step hB; replace K := K.trans (Kept.of hB)
      clear hB
      clear PM
      replace R := R.alloc (.cells #[.int .u64 (ww3 a), .int .u64 (ww2 a), .int .u64 (ww1 a), .int .u64 (ww0 a), .int .u64 (ww3 b), .int .u64 (ww2 b), .int .u64 (ww1 b), .int .u64 (ww0 b), .int .u64 (ww3 c), .int .u64 (ww2 c), .int .u64 (ww1 c), .int .u64 (ww0 c)] 28); replace B := B.alloc (.cells #[.int .u64 (ww3 a), .int .u64 (ww2 a), .int .u64 (ww1 a), .int .u64 (ww0 a), .int .u64 (ww3 b), .int .u64 (ww2 b), .int .u64 (ww1 b), .int .u64 (ww0 b), .int .u64 (ww3 c), .int .u64 (ww2 c), .int .u64 (ww1 c), .int .u64 (ww0 c)] 28); replace K := K.alloc (.cells #[.int .u64 (ww3 a), .int .u64 (ww2 a), .int .u64 (ww1 a), .int .u64 (ww0 a), .int .u64 (ww3 b), .int .u64 (ww2 b), .int .u64 (ww1 b), .int .u64 (ww0 b), .int .u64 (ww3 c), .int .u64 (ww2 c), .int .u64 (ww1 c), .int .u64 (ww0 c)] 28)
      have o0 := B.c 0 rfl; have f0 := B.f 0 rfl; have o1 := B.c 1 rfl; have f1 := B.f 1 rfl; have o2 := B.c 2 rfl; have f2 := B.f 2 rfl; have o3 := B.c 3 rfl; have f3 := B.f 3 rfl; have o4 := B.c 4 rfl; have f4 := B.f 4 rfl; have o5 := B.c 5 rfl; have f5 := B.f 5 rfl; have o6 := B.c 6 rfl; have f6 := B.f 6 rfl; have o7 := B.c 7 rfl; have f7 := B.f 7 rfl; have o8 := B.c 8 rfl; have f8 := B.f 8 rfl; have o9 := B.c 9 rfl; have f9 := B.f 9 rfl; have o10 := B.c 10 rfl; have f10 := B.f 10 rfl; have o11 := B.c 11 rfl; have f11 := B.f 11 rfl; have ol := B.lt
      clear B
      go_wp2
      refine bodyPost_ret (v := PV a b c) (by simp [results, Try.results23, go_sem, o0, o1, o2, o3, o4, o5, o6, o7, o8, o9, o10, o11]) rfl ?_
      exact pt_done hg R K ta tb tc
    · clear x0 x1
      go_wp2_with fail
      refine (near_p40 g ao n cap cs _ R).mono ?_
      rintro e w2 ⟨_, rfl, ⟨y, rfl, y0, y1⟩, R1, K1⟩
      replace B := B.kept K1 hne; replace K := K.trans K1
      clear R K1
      have R := R1
      clear R1
      go_wp2_with fail
      refine (SO _ _ (by first | omega | (unfold wrap64; omega)) (by first | omega | (unfold wrap64; omega))).mono ?_
      rintro e w3 ⟨rfl, hB⟩
      replace R := R.step hB; replace B := B.step hB; replace K := K.trans (Kept.of hB)
      clear hB
      go_wp2_with fail
      refine (near_p40 g ao n cap cs _ R).mono ?_
      rintro e w4 ⟨_, rfl, ⟨y', rfl, y0', y1'⟩, R1, K1⟩
      replace B := B.kept K1 hne; replace K := K.trans K1
      clear R K1
      have R := R1
      clear R1
      go_wp2_with fail
      refine (SO _ _ (by first | omega | (unfold wrap64; omega)) (by first | omega | (unfold wrap64; omega))).mono ?_
      rintro e w5 ⟨rfl, hB⟩
      replace R := R.step hB; replace B := B.step hB; replace K := K.trans (Kept.of hB)
      clear hB
      go_wp2_with fail
      refine (near_p9 g ao n cap cs _ R).mono ?_
      rintro e w6 ⟨_, rfl, ⟨y2, rfl, y20, y21⟩, R1, K1⟩
      replace B := B.kept K1 hne; replace K := K.trans K1
      clear R K1
      have R := R1
      clear R1
      go_wp2_with fail
      refine (SO _ _ (by first | omega | (unfold wrap64; omega)) (by first | omega | (unfold wrap64; omega))).mono ?_
      rintro e w7 ⟨rfl, hB⟩
      replace R := R.step hB; replace B := B.step hB; replace K := K.trans (Kept.of hB)
      clear hB
      have PM := fun w => specPointMake_det y y' (1 + y2) (told_small (small_int (by omega) (by omega))) (told_small (small_int (by omega) (by omega))) (told_small (small_int (by omega) (by omega))) w
      obtain ⟨a, b, c, tt, hpm, ta, tb, tc⟩ := pmV_pt y y' (1 + y2)
      rw [hpm] at PM
      clear hpm
      go_wp2_with fail
      refine (PM _).mono ?_
      rintro e w8 ⟨rfl, hB⟩
      replace R := R.step hB; replace B := B.step hB; replace K := K.trans (Kept.of hB)
      clear hB
      clear PM
      replace R := R.alloc (.cells #[.int .u64 (ww3 a), .int .u64 (ww2 a), .int .u64 (ww1 a), .int .u64 (ww0 a), .int .u64 (ww3 b), .int .u64 (ww2 b), .int .u64 (ww1 b), .int .u64 (ww0 b), .int .u64 (ww3 c), .int .u64 (ww2 c), .int .u64 (ww1 c), .int .u64 (ww0 c)] 28); replace B := B.alloc (.cells #[.int .u64 (ww3 a), .int .u64 (ww2 a), .int .u64 (ww1 a), .int .u64 (ww0 a), .int .u64 (ww3 b), .int .u64 (ww2 b), .int .u64 (ww1 b), .int .u64 (ww0 b), .int .u64 (ww3 c), .int .u64 (ww2 c), .int .u64 (ww1 c), .int .u64 (ww0 c)] 28); replace K := K.alloc (.cells #[.int .u64 (ww3 a), .int .u64 (ww2 a), .int .u64 (ww1 a), .int .u64 (ww0 a), .int .u64 (ww3 b), .int .u64 (ww2 b), .int .u64 (ww1 b), .int .u64 (ww0 b), .int .u64 (ww3 c), .int .u64 (ww2 c), .int .u64 (ww1 c), .int .u64 (ww0 c)] 28)
      have o0 := B.c 0 rfl; have f0 := B.f 0 rfl; have o1 := B.c 1 rfl; have f1 := B.f 1 rfl; have o2 := B.c 2 rfl; have f2 := B.f 2 rfl; have o3 := B.c 3 rfl; have f3 := B.f 3 rfl; have o4 := B.c 4 rfl; have f4 := B.f 4 rfl; have o5 := B.c 5 rfl; have f5 := B.f 5 rfl; have o6 := B.c 6 rfl; have f6 := B.f 6 rfl; have o7 := B.c 7 rfl; have f7 := B.f 7 rfl; have o8 := B.c 8 rfl; have f8 := B.f 8 rfl; have o9 := B.c 9 rfl; have f9 := B.f 9 rfl; have o10 := B.c 10 rfl; have f10 := B.f 10 rfl; have o11 := B.c 11 rfl; have f11 := B.f 11 rfl; have ol := B.lt
      clear B
      go_wp2
      refine bodyPost_ret (v := PV a b c) (by simp [results, Try.results23, go_sem, o0, o1, o2, o3, o4, o5, o6, o7, o8, o9, o10, o11]) rfl ?_
      exact pt_done hg R K ta tb tc
  · clear SO x0 x1
    go_wp2_with fail
    refine (near_pm g ao n cap cs _ R).mono ?_
    rintro e w2 ⟨_, rfl, ⟨y, rfl, y0, y1⟩, R1, K1⟩
    replace B := B.kept K1 hne; replace K := K.trans K1
    clear R K1
    have R := R1
    clear R1
    go_wp2_with fail
    refine (near_pm g ao n cap cs _ R).mono ?_
    rintro e w3 ⟨_, rfl, ⟨y', rfl, y0', y1'⟩, R1, K1⟩
    replace B := B.kept K1 hne; replace K := K.trans K1
    clear R K1
    have R := R1
    clear R1
    go_wp2_with fail
    refine (specPointOf_any y y' (by omega) (by omega) (by omega) (by omega) _).mono ?_
    rintro e w4 ⟨rfl, hB⟩
    replace R := R.step hB; replace B := B.step hB; replace K := K.trans (Kept.of hB)
    clear hB
    have o0 := B.c 0 rfl; have f0 := B.f 0 rfl; have o1 := B.c 1 rfl; have f1 := B.f 1 rfl; have o2 := B.c 2 rfl; have f2 := B.f 2 rfl; have o3 := B.c 3 rfl; have f3 := B.f 3 rfl; have o4 := B.c 4 rfl; have f4 := B.f 4 rfl; have o5 := B.c 5 rfl; have f5 := B.f 5 rfl; have o6 := B.c 6 rfl; have f6 := B.f 6 rfl; have o7 := B.c 7 rfl; have f7 := B.f 7 rfl; have o8 := B.c 8 rfl; have f8 := B.f 8 rfl; have o9 := B.c 9 rfl; have f9 := B.f 9 rfl; have o10 := B.c 10 rfl; have f10 := B.f 10 rfl; have o11 := B.c 11 rfl; have f11 := B.f 11 rfl; have ol := B.lt
    clear B
    go_wp2
    refine bodyPost_ret (v := PV y y' 1) (by simp [results, Try.results23, go_sem, o0, o1, o2, o3, o4, o5, o6, o7, o8, o9, o10, o11]) rfl ?_
    exact pt_done hg R K (told_small (small_int (by omega) (by omega))) (told_small (small_int (by omega) (by omega))) (by decide)
  · clear SO x0 x1
    rcases hx with rfl | rfl | rfl | rfl
    all_goals (
      go_wp2_with fail
      refine (spot_any g ao n cap cs _ R).mono ?_
      rintro e w2 ⟨_, rfl, ⟨y, y', rfl, y0, y1, y0', y1'⟩, R1, K1⟩
      replace B := B.kept K1 hne; replace K := K.trans K1
      clear R K1
      have R := R1
      clear R1
      go_wp2_with fail
      refine (specPointOf_any y y' (by omega) (by omega) (by omega) (by omega) _).mono ?_
      rintro e w3 ⟨rfl, hB⟩
      replace R := R.step hB; replace B := B.step hB; replace K := K.trans (Kept.of hB)
      clear hB
      have o0 := B.c 0 rfl; have f0 := B.f 0 rfl; have o1 := B.c 1 rfl; have f1 := B.f 1 rfl; have o2 := B.c 2 rfl; have f2 := B.f 2 rfl; have o3 := B.c 3 rfl; have f3 := B.f 3 rfl; have o4 := B.c 4 rfl; have f4 := B.f 4 rfl; have o5 := B.c 5 rfl; have f5 := B.f 5 rfl; have o6 := B.c 6 rfl; have f6 := B.f 6 rfl; have o7 := B.c 7 rfl; have f7 := B.f 7 rfl; have o8 := B.c 8 rfl; have f8 := B.f 8 rfl; have o9 := B.c 9 rfl; have f9 := B.f 9 rfl; have o10 := B.c 10 rfl; have f10 := B.f 10 rfl; have o11 := B.c 11 rfl; have f11 := B.f 11 rfl; have ol := B.lt
      clear B
      go_wp2
      refine bodyPost_ret (v := PV y y' 1) (by simp [results, Try.results23, go_sem, o0, o1, o2, o3, o4, o5, o6, o7, o8, o9, o10, o11]) rfl ?_
      exact pt_done hg R K (told_small (small_int (by omega) (by omega))) (told_small (small_int (by omega) (by omega))) (by decide))
end Go.Proofs.Ytgmenloipiedeaa

/- A point of three numbers: the program's walk. -/
namespace Go.Proofs.Ytgmenloipiedeaa
open Go.RowKit
end Go.Proofs.Ytgmenloipiedeaa

/- The middle of two points: the program's walk. -/
namespace Go.Proofs.Ytgmenloipiedeaa
open Go.RowKit
/-- The middle of two right points, and true; zeros and false where there is none. -/
def midV (x y z u v t : Int) : Value := if ptB x y z && ptB u v t then pmV (x * t + u * z) (y * t + v * z) (2 * (z * t)) else .tuple #[.agg #[.int .u64 0, .int .u64 0, .int .u64 0, .int .u64 0, .int .u64 0, .int .u64 0, .int .u64 0, .int .u64 0, .int .u64 0, .int .u64 0, .int .u64 0, .int .u64 0], .bool false]
end Go.Proofs.Ytgmenloipiedeaa

/- The middle of two points: the model's walk. -/
namespace Go.Proofs.Ytgmenloipiedeaa
open Go.RowKit
theorem md_cells {ps1 ps2 ps3 : Bool} {po1 po2 po3 : Option Addr} {pn1 pc1 pn2 pc2 pn3 pc3 : Nat} {qs1 qs2 qs3 : Bool} {qo1 qo2 qo3 : Option Addr} {qn1 qc1 qn2 qc2 qn3 qc3 : Nat} {W : World} {gp gq : Nat} (Xp : Blk W gp [.bool ps1, .slice po1 pn1 pc1, .bool ps2, .slice po2 pn2 pc2, .bool ps3, .slice po3 pn3 pc3]) (Xq : Blk W gq [.bool qs1, .slice qo1 qn1 qc1, .bool qs2, .slice qo2 qn2 qc2, .bool qs3, .slice qo3 qn3 qc3]) : (fun w' => w'.cell? ⟨gp, 0, none⟩ = some (.bool ps1) ∧ w'.cell? ⟨gp, 1, none⟩ = some (.slice po1 pn1 pc1) ∧ w'.cell? ⟨gp, 2, none⟩ = some (.bool ps2) ∧ w'.cell? ⟨gp, 3, none⟩ = some (.slice po2 pn2 pc2) ∧ w'.cell? ⟨gp, 4, none⟩ = some (.bool ps3) ∧ w'.cell? ⟨gp, 5, none⟩ = some (.slice po3 pn3 pc3) ∧ w'.cell? ⟨gq, 0, none⟩ = some (.bool qs1) ∧ w'.cell? ⟨gq, 1, none⟩ = some (.slice qo1 qn1 qc1) ∧ w'.cell? ⟨gq, 2, none⟩ = some (.bool qs2) ∧ w'.cell? ⟨gq, 3, none⟩ = some (.slice qo2 qn2 qc2) ∧ w'.cell? ⟨gq, 4, none⟩ = some (.bool qs3) ∧ w'.cell? ⟨gq, 5, none⟩ = some (.slice qo3 qn3 qc3)) W := ⟨Xp.c 0 rfl, Xp.c 1 rfl, Xp.c 2 rfl, Xp.c 3 rfl, Xp.c 4 rfl, Xp.c 5 rfl, Xq.c 0 rfl, Xq.c 1 rfl, Xq.c 2 rfl, Xq.c 3 rfl, Xq.c 4 rfl, Xq.c 5 rfl⟩
theorem md_cells12 {ps1 ps2 ps3 : Bool} {po1 po2 po3 : Option Addr} {pn1 pc1 pn2 pc2 pn3 pc3 : Nat} {qs1 qs2 qs3 : Bool} {qo1 qo2 qo3 : Option Addr} {qn1 qc1 qn2 qc2 qn3 qc3 : Nat} {W : World} {gp gq g : Nat} {v0 v1 v2 v3 v4 v5 v6 v7 v8 v9 v10 v11 : Value} (Xp : Blk W gp [.bool ps1, .slice po1 pn1 pc1, .bool ps2, .slice po2 pn2 pc2, .bool ps3, .slice po3 pn3 pc3]) (Xq : Blk W gq [.bool qs1, .slice qo1 qn1 qc1, .bool qs2, .slice qo2 qn2 qc2, .bool qs3, .slice qo3 qn3 qc3]) (hp : gp ≠ g) (hq : gq ≠ g) : (fun w' => w'.cell? ⟨gp, 0, none⟩ = some (.bool ps1) ∧ w'.cell? ⟨gp, 1, none⟩ = some (.slice po1 pn1 pc1) ∧ w'.cell? ⟨gp, 2, none⟩ = some (.bool ps2) ∧ w'.cell? ⟨gp, 3, none⟩ = some (.slice po2 pn2 pc2) ∧ w'.cell? ⟨gp, 4, none⟩ = some (.bool ps3) ∧ w'.cell? ⟨gp, 5, none⟩ = some (.slice po3 pn3 pc3) ∧ w'.cell? ⟨gq, 0, none⟩ = some (.bool qs1) ∧ w'.cell? ⟨gq, 1, none⟩ = some (.slice qo1 qn1 qc1) ∧ w'.cell? ⟨gq, 2, none⟩ = some (.bool qs2) ∧ w'.cell? ⟨gq, 3, none⟩ = some (.slice qo2 qn2 qc2) ∧ w'.cell? ⟨gq, 4, none⟩ = some (.bool qs3) ∧ w'.cell? ⟨gq, 5, none⟩ = some (.slice qo3 qn3 qc3)) ((((((((((((W.setCell ⟨g, 0, none⟩ v0).setCell ⟨g, 1, none⟩ v1).setCell ⟨g, 2, none⟩ v2).setCell ⟨g, 3, none⟩ v3).setCell ⟨g, 4, none⟩ v4).setCell ⟨g, 5, none⟩ v5).setCell ⟨g, 6, none⟩ v6).setCell ⟨g, 7, none⟩ v7).setCell ⟨g, 8, none⟩ v8).setCell ⟨g, 9, none⟩ v9).setCell ⟨g, 10, none⟩ v10).setCell ⟨g, 11, none⟩ v11) := ⟨(Xp.set12 hp).c 0 rfl, (Xp.set12 hp).c 1 rfl, (Xp.set12 hp).c 2 rfl, (Xp.set12 hp).c 3 rfl, (Xp.set12 hp).c 4 rfl, (Xp.set12 hp).c 5 rfl, (Xq.set12 hq).c 0 rfl, (Xq.set12 hq).c 1 rfl, (Xq.set12 hq).c 2 rfl, (Xq.set12 hq).c 3 rfl, (Xq.set12 hq).c 4 rfl, (Xq.set12 hq).c 5 rfl⟩
set_option maxRecDepth 100000 in
set_option maxHeartbeats 16000000 in
theorem specMiddle_det (x y z u v t : Int) (hx : told x = true) (hy : told y = true) (hz : told z = true) (hu : told u = true) (hv : told v = true) (ht : told t = true) (w : World) : Calls Try.prog 12 #[PV x y z, PV u v t] w (VP (midV x y z u v t) w) := by
  have T0 : ArgsB w (((w.alloc (.cells #[.int .u64 (ww3 x), .int .u64 (ww2 x), .int .u64 (ww1 x), .int .u64 (ww0 x), .int .u64 (ww3 y), .int .u64 (ww2 y), .int .u64 (ww1 y), .int .u64 (ww0 y), .int .u64 (ww3 z), .int .u64 (ww2 z), .int .u64 (ww1 z), .int .u64 (ww0 z)] 28)).alloc (.cells #[.int .u64 (ww3 u), .int .u64 (ww2 u), .int .u64 (ww1 u), .int .u64 (ww0 u), .int .u64 (ww3 v), .int .u64 (ww2 v), .int .u64 (ww1 v), .int .u64 (ww0 v), .int .u64 (ww3 t), .int .u64 (ww2 t), .int .u64 (ww1 t), .int .u64 (ww0 t)] 28)).alloc (.cells #[.int .u64 0, .int .u64 0, .int .u64 0, .int .u64 0, .int .u64 0, .int .u64 0, .int .u64 0, .int .u64 0, .int .u64 0, .int .u64 0, .int .u64 0, .int .u64 0] 28)) [[.int .u64 (ww3 x), .int .u64 (ww2 x), .int .u64 (ww1 x), .int .u64 (ww0 x), .int .u64 (ww3 y), .int .u64 (ww2 y), .int .u64 (ww1 y), .int .u64 (ww0 y), .int .u64 (ww3 z), .int .u64 (ww2 z), .int .u64 (ww1 z), .int .u64 (ww0 z)], [.int .u64 (ww3 u), .int .u64 (ww2 u), .int .u64 (ww1 u), .int .u64 (ww0 u), .int .u64 (ww3 v), .int .u64 (ww2 v), .int .u64 (ww1 v), .int .u64 (ww0 v), .int .u64 (ww3 t), .int .u64 (ww2 t), .int .u64 (ww1 t), .int .u64 (ww0 t)], [.int .u64 0, .int .u64 0, .int .u64 0, .int .u64 0, .int .u64 0, .int .u64 0, .int .u64 0, .int .u64 0, .int .u64 0, .int .u64 0, .int .u64 0, .int .u64 0]] := ar3 _ _ _ _ _ _ w
  have R1 := specPointOk_det x y z hx hy hz
  have R2 := specPointOk_det u v t hu hv ht
  have F1 := l3Of_det x y z hx hy hz
  have F2 := l3Of_det u v t hu hv ht
  clear hx hy hz hu hv ht
  go_enter Try.func12, Try.ntmps12
  go_wp2_with fail
  generalize (((w.alloc (.cells #[.int .u64 (ww3 x), .int .u64 (ww2 x), .int .u64 (ww1 x), .int .u64 (ww0 x), .int .u64 (ww3 y), .int .u64 (ww2 y), .int .u64 (ww1 y), .int .u64 (ww0 y), .int .u64 (ww3 z), .int .u64 (ww2 z), .int .u64 (ww1 z), .int .u64 (ww0 z)] 28)).alloc (.cells #[.int .u64 (ww3 u), .int .u64 (ww2 u), .int .u64 (ww1 u), .int .u64 (ww0 u), .int .u64 (ww3 v), .int .u64 (ww2 v), .int .u64 (ww1 v), .int .u64 (ww0 v), .int .u64 (ww3 t), .int .u64 (ww2 t), .int .u64 (ww1 t), .int .u64 (ww0 t)] 28)).alloc (.cells #[.int .u64 0, .int .u64 0, .int .u64 0, .int .u64 0, .int .u64 0, .int .u64 0, .int .u64 0, .int .u64 0, .int .u64 0, .int .u64 0, .int .u64 0, .int .u64 0] 28)) = WW at *
  refine (R1 _).mono ?_
  rintro e w1 ⟨rfl, hB⟩
  replace T0 := T0.step hB
  clear hB
  by_cases h1 : ptB x y z = true
  · rw [h1]
    have X0 : Blk _ w.heap.size _ := T0.b 0 rfl; have Y0 : Blk _ (w.heap.size + 1) _ := T0.b 1 rfl; have p0 := X0.c 0 rfl; have q0 := Y0.c 0 rfl; have p1 := X0.c 1 rfl; have q1 := Y0.c 1 rfl; have p2 := X0.c 2 rfl; have q2 := Y0.c 2 rfl; have p3 := X0.c 3 rfl; have q3 := Y0.c 3 rfl; have p4 := X0.c 4 rfl; have q4 := Y0.c 4 rfl; have p5 := X0.c 5 rfl; have q5 := Y0.c 5 rfl; have p6 := X0.c 6 rfl; have q6 := Y0.c 6 rfl; have p7 := X0.c 7 rfl; have q7 := Y0.c 7 rfl; have p8 := X0.c 8 rfl; have q8 := Y0.c 8 rfl; have p9 := X0.c 9 rfl; have q9 := Y0.c 9 rfl; have p10 := X0.c 10 rfl; have q10 := Y0.c 10 rfl; have p11 := X0.c 11 rfl; have q11 := Y0.c 11 rfl; clear X0 Y0
    go_wp2_with fail
    refine (R2 _).mono ?_
    rintro e w2 ⟨rfl, hB⟩
    replace T0 := T0.step hB
    clear hB p0 q0 p1 q1 p2 q2 p3 q3 p4 q4 p5 q5 p6 q6 p7 q7 p8 q8 p9 q9 p10 q10 p11 q11
    by_cases h2 : ptB u v t = true
    · rw [h2]
      obtain ⟨pz, -, -, -⟩ := ptB_small h1
      obtain ⟨pt, -, -, -⟩ := ptB_small h2
      have hne : 2 * (z * t) ≠ 0 := by
        have h := Int.mul_pos pz pt
        omega
      have HV : Hid (midV x y z u v t = pmV (x * t + u * z) (y * t + v * z) (2 * (z * t))) := by show _ = _; unfold midV; rw [h1, h2, if_pos (show (true && true) = true from rfl)]
      have HP : Hid (pmV (x * t + u * z) (y * t + v * z) (2 * (z * t)) = ptV (shareZ (x * t + u * z) (Int.gcd (Int.gcd (x * t + u * z) (y * t + v * z) : Int) (2 * (z * t)) : Int) (decide (2 * (z * t) < 0))) (shareZ (y * t + v * z) (Int.gcd (Int.gcd (x * t + u * z) (y * t + v * z) : Int) (2 * (z * t)) : Int) (decide (2 * (z * t) < 0))) (shareZ (2 * (z * t)) (Int.gcd (Int.gcd (x * t + u * z) (y * t + v * z) : Int) (2 * (z * t)) : Int) (decide (2 * (z * t) < 0)))) := by show _ = _; unfold pmV; rw [if_neg hne]
      obtain ⟨r0, r1, r2, r3, r4, r5, r6, r7, r8, r9, r10, r11, f, hf⟩ := pmV_ex (x * t + u * z) (y * t + v * z) (2 * (z * t))
      have HO : Hid (midV x y z u v t = .tuple #[.agg #[.int .u64 r0, .int .u64 r1, .int .u64 r2, .int .u64 r3, .int .u64 r4, .int .u64 r5, .int .u64 r6, .int .u64 r7, .int .u64 r8, .int .u64 r9, .int .u64 r10, .int .u64 r11], .bool f]) := HV.out.trans hf
      have ht := HP.out.symm.trans hf
      clear hf HV HP h1 h2 R1 R2 pz pt
      have X0 : Blk _ w.heap.size _ := T0.b 0 rfl; have Y0 : Blk _ (w.heap.size + 1) _ := T0.b 1 rfl; have p0 := X0.c 0 rfl; have q0 := Y0.c 0 rfl; have p1 := X0.c 1 rfl; have q1 := Y0.c 1 rfl; have p2 := X0.c 2 rfl; have q2 := Y0.c 2 rfl; have p3 := X0.c 3 rfl; have q3 := Y0.c 3 rfl; have p4 := X0.c 4 rfl; have q4 := Y0.c 4 rfl; have p5 := X0.c 5 rfl; have q5 := Y0.c 5 rfl; have p6 := X0.c 6 rfl; have q6 := Y0.c 6 rfl; have p7 := X0.c 7 rfl; have q7 := Y0.c 7 rfl; have p8 := X0.c 8 rfl; have q8 := Y0.c 8 rfl; have p9 := X0.c 9 rfl; have q9 := Y0.c 9 rfl; have p10 := X0.c 10 rfl; have q10 := Y0.c 10 rfl; have p11 := X0.c 11 rfl; have q11 := Y0.c 11 rfl; clear X0 Y0
      go_wp2_with fail
      refine (F1 _).mono ?_
      rintro e w3 ⟨ps1, po1, pn1, pc1, pd1, ps2, po2, pn2, pc2, pd2, ps3, po3, pn3, pc3, pd3, rfl, Np1, Np2, Np3, hB⟩
      have hgp : w.heap.size + 2 < w3.heap.size := ((T0.step hB).b 2 rfl).lt
      replace T0 := (T0.step hB).alloc (.cells #[.bool ps1, .slice po1 pn1 pc1, .bool ps2, .slice po2 pn2 pc2, .bool ps3, .slice po3 pn3 pc3] 58)
      have Xp := Blk.new w3 [.bool ps1, .slice po1 pn1 pc1, .bool ps2, .slice po2 pn2 pc2, .bool ps3, .slice po3 pn3 pc3] 58 rfl
      replace Np1 := Np1.alloc (.cells #[.bool ps1, .slice po1 pn1 pc1, .bool ps2, .slice po2 pn2 pc2, .bool ps3, .slice po3 pn3 pc3] 58); replace Np2 := Np2.alloc (.cells #[.bool ps1, .slice po1 pn1 pc1, .bool ps2, .slice po2 pn2 pc2, .bool ps3, .slice po3 pn3 pc3] 58); replace Np3 := Np3.alloc (.cells #[.bool ps1, .slice po1 pn1 pc1, .bool ps2, .slice po2 pn2 pc2, .bool ps3, .slice po3 pn3 pc3] 58)
      clear hB F1 p0 q0 p1 q1 p2 q2 p3 q3 p4 q4 p5 q5 p6 q6 p7 q7 p8 q8 p9 q9 p10 q10 p11 q11
      have X0 : Blk _ w.heap.size _ := T0.b 0 rfl; have Y0 : Blk _ (w.heap.size + 1) _ := T0.b 1 rfl; have p0 := X0.c 0 rfl; have q0 := Y0.c 0 rfl; have p1 := X0.c 1 rfl; have q1 := Y0.c 1 rfl; have p2 := X0.c 2 rfl; have q2 := Y0.c 2 rfl; have p3 := X0.c 3 rfl; have q3 := Y0.c 3 rfl; have p4 := X0.c 4 rfl; have q4 := Y0.c 4 rfl; have p5 := X0.c 5 rfl; have q5 := Y0.c 5 rfl; have p6 := X0.c 6 rfl; have q6 := Y0.c 6 rfl; have p7 := X0.c 7 rfl; have q7 := Y0.c 7 rfl; have p8 := X0.c 8 rfl; have q8 := Y0.c 8 rfl; have p9 := X0.c 9 rfl; have q9 := Y0.c 9 rfl; have p10 := X0.c 10 rfl; have q10 := Y0.c 10 rfl; have p11 := X0.c 11 rfl; have q11 := Y0.c 11 rfl; clear X0 Y0
      go_wp2_with fail
      refine (F2 _).mono ?_
      rintro e w4 ⟨qs1, qo1, qn1, qc1, qd1, qs2, qo2, qn2, qc2, qd2, qs3, qo3, qn3, qc3, qd3, rfl, Nq1, Nq2, Nq3, hB⟩
      replace Np1 := Np1.below hB; replace Np2 := Np2.below hB; replace Np3 := Np3.below hB
      replace T0 := (T0.step hB).alloc (.cells #[.bool qs1, .slice qo1 qn1 qc1, .bool qs2, .slice qo2 qn2 qc2, .bool qs3, .slice qo3 qn3 qc3] 58)
      replace Xp := Xp.step hB
      have hgq : w3.heap.size < w4.heap.size := Xp.lt
      replace Xp := Xp.alloc (.cells #[.bool qs1, .slice qo1 qn1 qc1, .bool qs2, .slice qo2 qn2 qc2, .bool qs3, .slice qo3 qn3 qc3] 58)
      have Xq := Blk.new w4 [.bool qs1, .slice qo1 qn1 qc1, .bool qs2, .slice qo2 qn2 qc2, .bool qs3, .slice qo3 qn3 qc3] 58 rfl
      replace Np1 := (Np1.alloc (.cells #[.bool qs1, .slice qo1 qn1 qc1, .bool qs2, .slice qo2 qn2 qc2, .bool qs3, .slice qo3 qn3 qc3] 58)).drew; replace Np2 := (Np2.alloc (.cells #[.bool qs1, .slice qo1 qn1 qc1, .bool qs2, .slice qo2 qn2 qc2, .bool qs3, .slice qo3 qn3 qc3] 58)).drew; replace Np3 := (Np3.alloc (.cells #[.bool qs1, .slice qo1 qn1 qc1, .bool qs2, .slice qo2 qn2 qc2, .bool qs3, .slice qo3 qn3 qc3] 58)).drew; replace Nq1 := (Nq1.alloc (.cells #[.bool qs1, .slice qo1 qn1 qc1, .bool qs2, .slice qo2 qn2 qc2, .bool qs3, .slice qo3 qn3 qc3] 58)).drew; replace Nq2 := (Nq2.alloc (.cells #[.bool qs1, .slice qo1 qn1 qc1, .bool qs2, .slice qo2 qn2 qc2, .bool qs3, .slice qo3 qn3 qc3] 58)).drew; replace Nq3 := (Nq3.alloc (.cells #[.bool qs1, .slice qo1 qn1 qc1, .bool qs2, .slice qo2 qn2 qc2, .bool qs3, .slice qo3 qn3 qc3] 58)).drew
      clear hB F2 p0 q0 p1 q1 p2 q2 p3 q3 p4 q4 p5 q5 p6 q6 p7 q7 p8 q8 p9 q9 p10 q10 p11 q11
      have tk0 : True := trivial; have tk1 : True := trivial; have tk2 : True := trivial; have tk3 : True := trivial; have tk4 : True := trivial; have tk5 : True := trivial; have tk6 : True := trivial; have tk7 : True := trivial
      go_upto_region 5 with fail
      generalize w4.alloc (.cells #[.bool qs1, .slice qo1 qn1 qc1, .bool qs2, .slice qo2 qn2 qc2, .bool qs3, .slice qo3 qn3 qc3] 58) = W4' at *
      generalize w4.heap.size = gq at *
      generalize w3.heap.size = gp at *
      go_region_held3 (fun w' => w'.cell? ⟨gp, 0, none⟩ = some (.bool ps1) ∧ w'.cell? ⟨gp, 1, none⟩ = some (.slice po1 pn1 pc1) ∧ w'.cell? ⟨gp, 2, none⟩ = some (.bool ps2) ∧ w'.cell? ⟨gp, 3, none⟩ = some (.slice po2 pn2 pc2) ∧ w'.cell? ⟨gp, 4, none⟩ = some (.bool ps3) ∧ w'.cell? ⟨gp, 5, none⟩ = some (.slice po3 pn3 pc3) ∧ w'.cell? ⟨gq, 0, none⟩ = some (.bool qs1) ∧ w'.cell? ⟨gq, 1, none⟩ = some (.slice qo1 qn1 qc1) ∧ w'.cell? ⟨gq, 2, none⟩ = some (.bool qs2) ∧ w'.cell? ⟨gq, 3, none⟩ = some (.slice qo2 qn2 qc2) ∧ w'.cell? ⟨gq, 4, none⟩ = some (.bool qs3) ∧ w'.cell? ⟨gq, 5, none⟩ = some (.slice qo3 qn3 qc3)) (first | (with_reducible exact md_cells Xp Xq) | (with_reducible exact md_cells Xp.drew Xq.drew) | (with_reducible exact md_cells12 Xp Xq (by omega) (by omega)))
        (first
          | (go_at_call 34; have _t := tk0; refine (mul_any ps1 qs3 po1 qo3 pn1 qn3 pc1 qc3 8 pd1 qd3 _ _ _ Np1 Nq3 (by omega)).mono ?_; rintro e k1 ⟨fas, fao, fan, fac, fad, rfl, Nfa, hB⟩; (first | (have T1 := T0.step hB; replace Xp := Xp.step hB; replace Xq := Xq.step hB) | (have T1 := T0.drew.step hB; replace Xp := Xp.drew.step hB; replace Xq := Xq.drew.step hB)); clear T0; have T0 := T1; clear T1; replace Np1 := Np1.below hB; replace Np2 := Np2.below hB; replace Np3 := Np3.below hB; replace Nq1 := Nq1.below hB; replace Nq2 := Nq2.below hB; replace Nq3 := Nq3.below hB; clear hB tk0 _t)
          | (go_at_call 34; have _t := tk1; refine (mul_any qs1 ps3 qo1 po3 qn1 pn3 qc1 pc3 8 qd1 pd3 _ _ _ Nq1 Np3 (by omega)).mono ?_; rintro e k2 ⟨fbs, fbo, fbn, fbc, fbd, rfl, Nfb, hB⟩; (first | (have T1 := T0.step hB; replace Xp := Xp.step hB; replace Xq := Xq.step hB) | (have T1 := T0.drew.step hB; replace Xp := Xp.drew.step hB; replace Xq := Xq.drew.step hB)); clear T0; have T0 := T1; clear T1; replace Np1 := Np1.below hB; replace Np2 := Np2.below hB; replace Np3 := Np3.below hB; replace Nq1 := Nq1.below hB; replace Nq2 := Nq2.below hB; replace Nq3 := Nq3.below hB; replace Nfa := Nfa.below hB; clear hB tk1 _t)
          | (go_at_call 33; have _t := tk2; refine (add_any fas fbs fao fbo fan fbn fac fbc 16 fad fbd _ _ _ Nfa Nfb (by omega)).mono ?_; rintro e k3 ⟨fcs, fco, fcn, fcc, fcd, rfl, Nfc, hB⟩; (first | (have T1 := T0.step hB; replace Xp := Xp.step hB; replace Xq := Xq.step hB) | (have T1 := T0.drew.step hB; replace Xp := Xp.drew.step hB; replace Xq := Xq.drew.step hB)); clear T0; have T0 := T1; clear T1; replace Np1 := Np1.below hB; replace Np2 := Np2.below hB; replace Np3 := Np3.below hB; replace Nq1 := Nq1.below hB; replace Nq2 := Nq2.below hB; replace Nq3 := Nq3.below hB; clear hB tk2 _t; clear Nfa Nfb)
          | (go_at_call 34; have _t := tk3; refine (mul_any ps2 qs3 po2 qo3 pn2 qn3 pc2 qc3 8 pd2 qd3 _ _ _ Np2 Nq3 (by omega)).mono ?_; rintro e k4 ⟨fds, fdo, fdn, fdc, fdd, rfl, Nfd, hB⟩; (first | (have T1 := T0.step hB; replace Xp := Xp.step hB; replace Xq := Xq.step hB) | (have T1 := T0.drew.step hB; replace Xp := Xp.drew.step hB; replace Xq := Xq.drew.step hB)); clear T0; have T0 := T1; clear T1; replace Np1 := Np1.below hB; replace Np2 := Np2.below hB; replace Np3 := Np3.below hB; replace Nq1 := Nq1.below hB; replace Nq2 := Nq2.below hB; replace Nq3 := Nq3.below hB; replace Nfc := Nfc.below hB; clear hB tk3 _t)
          | (go_at_call 34; have _t := tk4; refine (mul_any qs2 ps3 qo2 po3 qn2 pn3 qc2 pc3 8 qd2 pd3 _ _ _ Nq2 Np3 (by omega)).mono ?_; rintro e k5 ⟨fes, feo, fen, fec, fed, rfl, Nfe, hB⟩; (first | (have T1 := T0.step hB; replace Xp := Xp.step hB; replace Xq := Xq.step hB) | (have T1 := T0.drew.step hB; replace Xp := Xp.drew.step hB; replace Xq := Xq.drew.step hB)); clear T0; have T0 := T1; clear T1; replace Np1 := Np1.below hB; replace Np2 := Np2.below hB; replace Np3 := Np3.below hB; replace Nq1 := Nq1.below hB; replace Nq2 := Nq2.below hB; replace Nq3 := Nq3.below hB; replace Nfc := Nfc.below hB; replace Nfd := Nfd.below hB; clear hB tk4 _t)
          | (go_at_call 33; refine (add_any fds fes fdo feo fdn fen fdc fec 16 fdd fed _ _ _ Nfd Nfe (by omega)).mono ?_; rintro e k6 ⟨ffs, ffo, ffn, ffc, ffd, rfl, Nff, hB⟩; (first | (have T1 := T0.step hB; replace Xp := Xp.step hB; replace Xq := Xq.step hB) | (have T1 := T0.drew.step hB; replace Xp := Xp.drew.step hB; replace Xq := Xq.drew.step hB)); clear T0; have T0 := T1; clear T1; replace Np1 := Np1.below hB; replace Np2 := Np2.below hB; replace Np3 := Np3.below hB; replace Nq1 := Nq1.below hB; replace Nq2 := Nq2.below hB; replace Nq3 := Nq3.below hB; replace Nfc := Nfc.below hB; clear hB; clear Nfd Nfe)
          | (go_at_call 35; refine (int_any 2 _ (by decide) (by decide)).mono ?_; rintro e k7 ⟨fgs, fgo, fgn, fgc, fgd, rfl, Nfg, hB⟩; (first | (have T1 := T0.step hB; replace Xp := Xp.step hB; replace Xq := Xq.step hB) | (have T1 := T0.drew.step hB; replace Xp := Xp.drew.step hB; replace Xq := Xq.drew.step hB)); clear T0; have T0 := T1; clear T1; replace Np1 := Np1.below hB; replace Np2 := Np2.below hB; replace Np3 := Np3.below hB; replace Nq1 := Nq1.below hB; replace Nq2 := Nq2.below hB; replace Nq3 := Nq3.below hB; replace Nfc := Nfc.below hB; replace Nff := Nff.below hB; clear hB)
          | (go_at_call 34; have _t := tk5; refine (mul_any ps3 qs3 po3 qo3 pn3 qn3 pc3 qc3 8 pd3 qd3 _ _ _ Np3 Nq3 (by omega)).mono ?_; rintro e k8 ⟨fhs, fho, fhn, fhc, fhd, rfl, Nfh, hB⟩; (first | (have T1 := T0.step hB; replace Xp := Xp.step hB; replace Xq := Xq.step hB) | (have T1 := T0.drew.step hB; replace Xp := Xp.drew.step hB; replace Xq := Xq.drew.step hB)); clear T0; have T0 := T1; clear T1; replace Nfc := Nfc.below hB; replace Nff := Nff.below hB; replace Nfg := Nfg.below hB; clear hB tk5 _t; clear Np1 Np2 Np3 Nq1 Nq2 Nq3)
          | (go_at_call 34; refine (mul_any fgs fhs fgo fho fgn fhn fgc fhc 16 fgd fhd _ _ _ (num_more Nfg (by omega)) Nfh (by omega)).mono ?_; rintro e k9 ⟨fis, fio, fin, fic, fid, rfl, Nfi, hB⟩; (first | (have T1 := T0.step hB; replace Xp := Xp.step hB; replace Xq := Xq.step hB) | (have T1 := T0.drew.step hB; replace Xp := Xp.drew.step hB; replace Xq := Xq.drew.step hB)); clear T0; have T0 := T1; clear T1; replace Nfc := Nfc.below hB; replace Nff := Nff.below hB; clear hB; clear Nfg Nfh)
          | (go_at_call 32; refine (l3Make_any fcs fco fcn fcc fcd ffs ffo ffn ffc ffd fis fio fin fic fid _ _ _ 32 (by omega) (by omega) _ (num_more Nfc (by omega)) (num_more Nff (by omega)) Nfi hne).mono ?_; rintro e k10 ⟨bs1, bo1, bn1, bc1, bd1, bs2, bo2, bn2, bc2, bd2, bs3, bo3, bn3, bc3, bd3, rfl, M1, M2, M3, hB⟩; (first | (have T1 := T0.step hB; replace Xp := Xp.step hB; replace Xq := Xq.step hB) | (have T1 := T0.drew.step hB; replace Xp := Xp.drew.step hB; replace Xq := Xq.drew.step hB)); clear T0; have T0 := T1; clear T1; clear hB Nfc Nff Nfi)
          | (go_at_call 31; refine (l3Point_any bs1 bo1 bn1 bc1 bd1 bs2 bo2 bn2 bc2 bd2 bs3 bo3 bn3 bc3 bd3 _ _ _ _ (by omega) _ M1 M2 M3).mono ?_; rw [ht]; rintro e k11 ⟨rfl, hB⟩; (first | (have T1 := T0.step hB; replace Xp := Xp.step hB; replace Xq := Xq.step hB) | (have T1 := T0.drew.step hB; replace Xp := Xp.drew.step hB; replace Xq := Xq.drew.step hB)); clear T0; have T0 := T1; clear T1; clear hB M1 M2 M3; have o0 := (T0.b 2 rfl).c 0 rfl; have u0 := (T0.b 2 rfl).f 0 rfl; have o1 := (T0.b 2 rfl).c 1 rfl; have u1 := (T0.b 2 rfl).f 1 rfl; have o2 := (T0.b 2 rfl).c 2 rfl; have u2 := (T0.b 2 rfl).f 2 rfl; have o3 := (T0.b 2 rfl).c 3 rfl; have u3 := (T0.b 2 rfl).f 3 rfl; have o4 := (T0.b 2 rfl).c 4 rfl; have u4 := (T0.b 2 rfl).f 4 rfl; have o5 := (T0.b 2 rfl).c 5 rfl; have u5 := (T0.b 2 rfl).f 5 rfl; have o6 := (T0.b 2 rfl).c 6 rfl; have u6 := (T0.b 2 rfl).f 6 rfl; have o7 := (T0.b 2 rfl).c 7 rfl; have u7 := (T0.b 2 rfl).f 7 rfl; have o8 := (T0.b 2 rfl).c 8 rfl; have u8 := (T0.b 2 rfl).f 8 rfl; have o9 := (T0.b 2 rfl).c 9 rfl; have u9 := (T0.b 2 rfl).f 9 rfl; have o10 := (T0.b 2 rfl).c 10 rfl; have u10 := (T0.b 2 rfl).f 10 rfl; have o11 := (T0.b 2 rfl).c 11 rfl; have u11 := (T0.b 2 rfl).f 11 rfl; have olt := (T0.b 2 rfl).lt))
      all_goals have HB := T0.below
      all_goals clear T0 Xp Xq
      all_goals go_wp2
      all_goals refine bodyPost_ret (v := .tuple #[.agg #[.int .u64 r0, .int .u64 r1, .int .u64 r2, .int .u64 r3, .int .u64 r4, .int .u64 r5, .int .u64 r6, .int .u64 r7, .int .u64 r8, .int .u64 r9, .int .u64 r10, .int .u64 r11], .bool f]) (by simp [results, Try.results12, go_sem, o0, o1, o2, o3, o4, o5, o6, o7, o8, o9, o10, o11]) rfl ?_
      all_goals refine ⟨by rw [HO.out], ?_⟩
      all_goals repeat' (refine Below.setCell ?_ (by simp; try omega) _)
      all_goals first | exact HB | exact HB.drew
    · replace h2 := Bool.eq_false_iff.2 h2
      rw [h2]
      have HO : Hid (midV x y z u v t = .tuple #[.agg #[.int .u64 0, .int .u64 0, .int .u64 0, .int .u64 0, .int .u64 0, .int .u64 0, .int .u64 0, .int .u64 0, .int .u64 0, .int .u64 0, .int .u64 0, .int .u64 0], .bool false]) := by show _ = _; unfold midV; rw [h2]; simp
      have o0 := (T0.b 2 rfl).c 0 rfl; have u0 := (T0.b 2 rfl).f 0 rfl; have o1 := (T0.b 2 rfl).c 1 rfl; have u1 := (T0.b 2 rfl).f 1 rfl; have o2 := (T0.b 2 rfl).c 2 rfl; have u2 := (T0.b 2 rfl).f 2 rfl; have o3 := (T0.b 2 rfl).c 3 rfl; have u3 := (T0.b 2 rfl).f 3 rfl; have o4 := (T0.b 2 rfl).c 4 rfl; have u4 := (T0.b 2 rfl).f 4 rfl; have o5 := (T0.b 2 rfl).c 5 rfl; have u5 := (T0.b 2 rfl).f 5 rfl; have o6 := (T0.b 2 rfl).c 6 rfl; have u6 := (T0.b 2 rfl).f 6 rfl; have o7 := (T0.b 2 rfl).c 7 rfl; have u7 := (T0.b 2 rfl).f 7 rfl; have o8 := (T0.b 2 rfl).c 8 rfl; have u8 := (T0.b 2 rfl).f 8 rfl; have o9 := (T0.b 2 rfl).c 9 rfl; have u9 := (T0.b 2 rfl).f 9 rfl; have o10 := (T0.b 2 rfl).c 10 rfl; have u10 := (T0.b 2 rfl).f 10 rfl; have o11 := (T0.b 2 rfl).c 11 rfl; have u11 := (T0.b 2 rfl).f 11 rfl; have olt := (T0.b 2 rfl).lt
      have HB := T0.below
      clear T0
      go_wp2
      refine bodyPost_ret (v := .tuple #[.agg #[.int .u64 0, .int .u64 0, .int .u64 0, .int .u64 0, .int .u64 0, .int .u64 0, .int .u64 0, .int .u64 0, .int .u64 0, .int .u64 0, .int .u64 0, .int .u64 0], .bool false]) (by simp [results, Try.results12, go_sem, o0, o1, o2, o3, o4, o5, o6, o7, o8, o9, o10, o11]) rfl ?_
      refine ⟨by rw [HO.out], ?_⟩
      repeat' (refine Below.setCell ?_ (by simp; try omega) _)
      exact HB
  · replace h1 := Bool.eq_false_iff.2 h1
    rw [h1]
    have HO : Hid (midV x y z u v t = .tuple #[.agg #[.int .u64 0, .int .u64 0, .int .u64 0, .int .u64 0, .int .u64 0, .int .u64 0, .int .u64 0, .int .u64 0, .int .u64 0, .int .u64 0, .int .u64 0, .int .u64 0], .bool false]) := by show _ = _; unfold midV; rw [h1]; simp
    have o0 := (T0.b 2 rfl).c 0 rfl; have u0 := (T0.b 2 rfl).f 0 rfl; have o1 := (T0.b 2 rfl).c 1 rfl; have u1 := (T0.b 2 rfl).f 1 rfl; have o2 := (T0.b 2 rfl).c 2 rfl; have u2 := (T0.b 2 rfl).f 2 rfl; have o3 := (T0.b 2 rfl).c 3 rfl; have u3 := (T0.b 2 rfl).f 3 rfl; have o4 := (T0.b 2 rfl).c 4 rfl; have u4 := (T0.b 2 rfl).f 4 rfl; have o5 := (T0.b 2 rfl).c 5 rfl; have u5 := (T0.b 2 rfl).f 5 rfl; have o6 := (T0.b 2 rfl).c 6 rfl; have u6 := (T0.b 2 rfl).f 6 rfl; have o7 := (T0.b 2 rfl).c 7 rfl; have u7 := (T0.b 2 rfl).f 7 rfl; have o8 := (T0.b 2 rfl).c 8 rfl; have u8 := (T0.b 2 rfl).f 8 rfl; have o9 := (T0.b 2 rfl).c 9 rfl; have u9 := (T0.b 2 rfl).f 9 rfl; have o10 := (T0.b 2 rfl).c 10 rfl; have u10 := (T0.b 2 rfl).f 10 rfl; have o11 := (T0.b 2 rfl).c 11 rfl; have u11 := (T0.b 2 rfl).f 11 rfl; have olt := (T0.b 2 rfl).lt
    have HB := T0.below
    clear T0
    go_wp2
    refine bodyPost_ret (v := .tuple #[.agg #[.int .u64 0, .int .u64 0, .int .u64 0, .int .u64 0, .int .u64 0, .int .u64 0, .int .u64 0, .int .u64 0, .int .u64 0, .int .u64 0, .int .u64 0, .int .u64 0], .bool false]) (by simp [results, Try.results12, go_sem, o0, o1, o2, o3, o4, o5, o6, o7, o8, o9, o10, o11]) rfl ?_
    refine ⟨by rw [HO.out], ?_⟩
    repeat' (refine Below.setCell ?_ (by simp; try omega) _)
    exact HB
end Go.Proofs.Ytgmenloipiedeaa
