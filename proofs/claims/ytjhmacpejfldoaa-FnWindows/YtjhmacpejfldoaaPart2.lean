/- Part 2 of the walks that the proof leans on. -/
import Derived.Test.YtjhmacpejfldoaaPart1
import Derived.Deep.OwnRows
import Derived.Deep.RegionHeld3
/- Points drawn from a code. -/
namespace Go.Proofs.Ytjhmacpejfldoaa
open Go.RowKit
set_option maxRecDepth 100000 in
set_option maxHeartbeats 1000000 in
theorem near_pm (g : Nat) (ao : Option Addr) (n cap : Nat) (cs : List Int) (w : World) (h : Rdr w g ao n cap cs) :
    Calls Try.prog 48 #[.pointer (some ⟨g, 0, none⟩), .int .i64 (-1000000), .int .i64 1000000] w (RdP g ao n cap cs (IsIn (-1000000) 1000001) w) := by
  go_enter Try.func48, Try.ntmps48
  go_wp2_with fail
  refine (below_any 8 (by decide) (by decide) g ao n cap cs _ h).mono ?_
  rintro e w1 ⟨_, rfl, ⟨x, rfl, x0, x1⟩, R, K⟩
  clear h
  by_cases h0 : x = 0
  · subst h0
    go_wp2
    go_ret
    exact ⟨_, rfl, ⟨_, rfl, by decide, by decide⟩, R, K⟩
  · by_cases h1 : x = 1
    · subst h1
      go_wp2
      go_ret
      exact ⟨_, rfl, ⟨_, rfl, by decide, by decide⟩, R, K⟩
    · have e0 : (x == 0) = false := by simpa using h0
      have e1 : (x == 1) = false := by simpa using h1
      go_wp2_with fail
      refine (word_any g ao n cap cs _ R).mono ?_
      rintro e w2 ⟨_, rfl, ⟨y, rfl, y0, y1⟩, R2, K2⟩
      replace K := K.trans K2
      clear R K2
      have hw : IntKind.u64.wrap 2000001 = 2000001 := by rw [IntKind.wrap_u64]; decide
      go_wp2
      go_ret
      exact ⟨_, rfl, ⟨_, rfl, by omega, by omega⟩, R2, K⟩
set_option maxRecDepth 100000 in
set_option maxHeartbeats 1000000 in
theorem near_p6 (g : Nat) (ao : Option Addr) (n cap : Nat) (cs : List Int) (w : World) (h : Rdr w g ao n cap cs) :
    Calls Try.prog 48 #[.pointer (some ⟨g, 0, none⟩), .int .i64 (-6), .int .i64 6] w (RdP g ao n cap cs (IsIn (-6) 7) w) := by
  go_enter Try.func48, Try.ntmps48
  go_wp2_with fail
  refine (below_any 8 (by decide) (by decide) g ao n cap cs _ h).mono ?_
  rintro e w1 ⟨_, rfl, ⟨x, rfl, x0, x1⟩, R, K⟩
  clear h
  by_cases h0 : x = 0
  · subst h0
    go_wp2
    go_ret
    exact ⟨_, rfl, ⟨_, rfl, by decide, by decide⟩, R, K⟩
  · by_cases h1 : x = 1
    · subst h1
      go_wp2
      go_ret
      exact ⟨_, rfl, ⟨_, rfl, by decide, by decide⟩, R, K⟩
    · have e0 : (x == 0) = false := by simpa using h0
      have e1 : (x == 1) = false := by simpa using h1
      go_wp2_with fail
      refine (word_any g ao n cap cs _ R).mono ?_
      rintro e w2 ⟨_, rfl, ⟨y, rfl, y0, y1⟩, R2, K2⟩
      replace K := K.trans K2
      clear R K2
      have hw : IntKind.u64.wrap 13 = 13 := by rw [IntKind.wrap_u64]; decide
      go_wp2
      go_ret
      exact ⟨_, rfl, ⟨_, rfl, by omega, by omega⟩, R2, K⟩
end Go.Proofs.Ytjhmacpejfldoaa

/- Points drawn from a code: the walks. -/
namespace Go.Proofs.Ytjhmacpejfldoaa
open Go.RowKit
/-- A spot of small numbers. -/
def IsSp6 (v : Value) : Prop := ∃ x y : Int, v = .agg #[.int .i64 x, .int .i64 y] ∧ -6 ≤ x ∧ x < 7 ∧ -6 ≤ y ∧ y < 7
set_option maxRecDepth 100000 in
set_option maxHeartbeats 1000000 in
theorem spot_any (g : Nat) (ao : Option Addr) (n cap : Nat) (cs : List Int) (w : World) (h : Rdr w g ao n cap cs) :
    Calls Try.prog 21 #[.pointer (some ⟨g, 0, none⟩)] w (RdP g ao n cap cs IsSp6 w) := by
  have hg := h.lt
  have hne : w.heap.size ≠ g := by omega
  have B := Blk.new w [.int .i64 0, .int .i64 0] 26 rfl
  have R := h.alloc (.cells #[.int .i64 0, .int .i64 0] 26)
  have K := (Kept.refl g w).alloc (.cells #[.int .i64 0, .int .i64 0] 26)
  clear h
  go_enter Try.func21, Try.ntmps21
  go_wp2_with fail
  refine (near_p6 g ao n cap cs _ R).mono ?_
  rintro e w1 ⟨_, rfl, ⟨y, rfl, y0, y1⟩, R1, K1⟩
  replace B := B.kept K1 hne; replace K := K.trans K1
  clear R K1
  have R := R1
  clear R1
  go_wp2_with fail
  refine (near_p6 g ao n cap cs _ R).mono ?_
  rintro e w2 ⟨_, rfl, ⟨y', rfl, y0', y1'⟩, R1, K1⟩
  replace B := B.kept K1 hne; replace K := K.trans K1
  clear R K1
  have R := R1
  clear R1
  have o0 := B.c 0 rfl; have f0 := B.f 0 rfl; have o1 := B.c 1 rfl; have f1 := B.f 1 rfl; have ol := B.lt
  clear B
  go_wp2
  refine bodyPost_ret (v := .agg #[.int .i64 y, .int .i64 y']) (by simp [results, Try.results21, go_sem, o0, o1]) rfl ?_
  exact ⟨_, rfl, ⟨y, y', rfl, y0, y1, y0', y1'⟩, (R.setN (by exact hg) _).setN (by exact hg) _, (K.setN (by simp) (by simp; omega) _).setN (by simp) (by simp; omega) _⟩
end Go.Proofs.Ytjhmacpejfldoaa

/- A point of three numbers: the program's walk. -/
namespace Go.Proofs.Ytjhmacpejfldoaa
open Go.RowKit
end Go.Proofs.Ytjhmacpejfldoaa

/- The middle of two points: the program's walk. -/
namespace Go.Proofs.Ytjhmacpejfldoaa
open Go.RowKit
end Go.Proofs.Ytjhmacpejfldoaa

/- The middle of two points: the model's walk. -/
namespace Go.Proofs.Ytjhmacpejfldoaa
open Go.RowKit
end Go.Proofs.Ytjhmacpejfldoaa

/- Segments drawn from a code. -/
namespace Go.Proofs.Ytjhmacpejfldoaa
open Go.RowKit
/-- A number of sixty-four bits. -/
def I64 (x : Int) : Prop := -9223372036854775808 ≤ x ∧ x ≤ 9223372036854775807
def IsI (v : Value) : Prop := ∃ x : Int, v = .int .i64 x ∧ I64 x
/-- Some segment. -/
def IsSg (v : Value) : Prop := ∃ a b c d : Int, v = .agg #[.int .i64 a, .int .i64 b, .int .i64 c, .int .i64 d] ∧ I64 a ∧ I64 b ∧ I64 c ∧ I64 d
set_option maxRecDepth 100000 in
set_option maxHeartbeats 2000000 in
theorem off_any (g : Nat) (ao : Option Addr) (n cap : Nat) (cs : List Int) (w : World) (R : Rdr w g ao n cap cs) :
    Calls Try.prog 20 #[.pointer (some ⟨g, 0, none⟩), .int .i64 (-1000000), .int .i64 1000000] w (RdP g ao n cap cs IsI w) := by
  go_enter Try.func20, Try.ntmps20
  go_wp2_with fail
  refine (once_any 24 (by decide) (by decide) g ao n cap cs _ R).mono ?_
  rintro e w1 ⟨_, rfl, ⟨b, rfl⟩, R1, K⟩
  clear R
  cases b
  · go_wp2_with fail
    refine (near_pm g ao n cap cs _ R1).mono ?_
    rintro e w2 ⟨_, rfl, ⟨x, rfl, x0, x1⟩, R2, K2⟩
    replace K := K.trans K2
    clear R1 K2
    go_wp2
    go_ret
    exact ⟨_, rfl, ⟨x, rfl, by constructor <;> omega⟩, R2, K⟩
  · have G := Blk.new w1 [.int .i64 (-1000001), .int .i64 1000001, .int .i64 (-9223372036854775808), .int .i64 9223372036854775807] 2 rfl
    rw [show ([.int .i64 (-1000001), .int .i64 1000001, .int .i64 (-9223372036854775808), .int .i64 9223372036854775807] : List Value).toArray = #[.int .i64 (-1000001), .int .i64 1000001, .int .i64 (-9223372036854775808), .int .i64 9223372036854775807] from rfl] at G
    have hgl := R1.lt
    have hgn : w1.heap.size ≠ g := by omega
    have R := R1.alloc (.cells #[.int .i64 (-1000001), .int .i64 1000001, .int .i64 (-9223372036854775808), .int .i64 9223372036854775807] 2)
    replace K := K.alloc (.cells #[.int .i64 (-1000001), .int .i64 1000001, .int .i64 (-9223372036854775808), .int .i64 9223372036854775807] 2)
    clear R1
    go_wp2_with fail
    refine (below_any 4 (by decide) (by decide) g ao n cap cs _ R).mono ?_
    rintro e w6 ⟨_, rfl, ⟨j, rfl, j0, j1⟩, R6, K6⟩
    replace G := G.kept K6 hgn
    replace K := K.trans K6
    obtain ⟨k, rfl⟩ : ∃ k : Nat, j = k := ⟨j.toNat, by omega⟩
    obtain ⟨u, hu, hus⟩ : ∃ u : Int, w6.cell? ⟨w1.heap.size, k, none⟩ = some (.int .i64 u) ∧ I64 u := by
      rcases (by omega : k = 0 ∨ k = 1 ∨ k = 2 ∨ k = 3) with rfl | rfl | rfl | rfl
      · exact ⟨_, G.c 0 rfl, by constructor <;> decide⟩
      · exact ⟨_, G.c 1 rfl, by constructor <;> decide⟩
      · exact ⟨_, G.c 2 rfl, by constructor <;> decide⟩
      · exact ⟨_, G.c 3 rfl, by constructor <;> decide⟩
    clear G R K6
    go_wp2
    go_ret
    exact ⟨_, rfl, ⟨u, rfl, hus⟩, R6, K⟩
theorem segOf_ex (x y u v : Int) (hx : I64 x) (hy : I64 y) (hu : I64 u) (hv : I64 v) : ∃ a b c d k, I64 a ∧ I64 b ∧ I64 c ∧ I64 d ∧ ∀ w, Calls Try.prog 46 #[.agg #[.int .i64 x, .int .i64 y], .agg #[.int .i64 u, .int .i64 v]] w (VP (.tuple #[.agg #[.int .i64 a, .int .i64 b, .int .i64 c, .int .i64 d], .bool k]) w) := by
  have hz : I64 0 := by constructor <;> decide
  refine ⟨_, _, _, _, _, ?_, ?_, ?_, ?_, fun w => specSegOf_any x y u v _ _ _ _ _ _ rfl rfl rfl rfl rfl rfl w⟩
  all_goals
    generalize lessI u v x y = l
    generalize segOk _ _ _ _ = k
    cases k <;> cases l <;> first | exact hz | exact hx | exact hy | exact hu | exact hv
end Go.Proofs.Ytjhmacpejfldoaa

/- Segments drawn from a code: the walk. -/
namespace Go.Proofs.Ytjhmacpejfldoaa
open Go.RowKit
set_option maxRecDepth 100000 in
theorem eqSpo (x y u v : Int) (w : World) : (Op.equalIn 10000 26 (.agg #[.int .i64 x, .int .i64 y]) (.agg #[.int .i64 u, .int .i64 v])).run Try.prog w = .ok (decide (x = u) && decide (y = v)) w := by
  have u3 := Try.underlying2
  have a3 := Try.isAgg2
  have z3 := Try.sizeOf2
  rw [show (10000 : Nat) = 9999 + 1 from rfl, Op.equalIn]
  simp only [Sem.run_bind, run_underlying Try.underlying26, Result.andThen_ok]
  go_simp
  by_cases h3 : x = u
  · subst h3
    by_cases h2 : y = v
    · subst h2
      simp
    · simp [h2]
  · simp [h3]
set_option maxRecDepth 100000 in
set_option maxHeartbeats 8000000 in
theorem seg_any (g : Nat) (ao : Option Addr) (n cap : Nat) (cs : List Int) (w : World) (h : Rdr w g ao n cap cs) :
    Calls Try.prog 47 #[.pointer (some ⟨g, 0, none⟩)] w (RdP g ao n cap cs IsSg w) := by
  have hg := h.lt
  have hne : w.heap.size ≠ g := by omega
  have B := Blk.new w [.int .i64 0, .int .i64 0, .int .i64 0, .int .i64 0] 39 rfl
  rw [show ([.int .i64 0, .int .i64 0, .int .i64 0, .int .i64 0] : List Value).toArray = #[.int .i64 0, .int .i64 0, .int .i64 0, .int .i64 0] from rfl] at B
  have R := h.alloc (.cells #[.int .i64 0, .int .i64 0, .int .i64 0, .int .i64 0] 39)
  have K := (Kept.refl g w).alloc (.cells #[.int .i64 0, .int .i64 0, .int .i64 0, .int .i64 0] 39)
  clear h
  go_enter Try.func47, Try.ntmps47
  go_wp2_with fail
  refine (below_any 20 (by decide) (by decide) g ao n cap cs _ R).mono ?_
  rintro e w1 ⟨_, rfl, ⟨v, rfl, v0, v1⟩, R1, K1⟩
  replace K := K.trans K1
  replace B := B.kept K1 hne
  clear R K1
  have R := R1
  clear R1
  by_cases hv0 : v = 0
  · subst hv0
    go_wp2_with fail
    refine (off_any g ao n cap cs _ R).mono ?_
    rintro e w2 ⟨_, rfl, ⟨a, rfl, ia⟩, R1, K1⟩
    replace K := K.trans K1
    replace B := B.kept K1 hne
    clear R K1
    have R := R1
    clear R1
    go_wp2_with fail
    refine (off_any g ao n cap cs _ R).mono ?_
    rintro e w3 ⟨_, rfl, ⟨b, rfl, ib⟩, R1, K1⟩
    replace K := K.trans K1
    replace B := B.kept K1 hne
    clear R K1
    have R := R1
    clear R1
    go_wp2_with fail
    refine (off_any g ao n cap cs _ R).mono ?_
    rintro e w4 ⟨_, rfl, ⟨c, rfl, ic⟩, R1, K1⟩
    replace K := K.trans K1
    replace B := B.kept K1 hne
    clear R K1
    have R := R1
    clear R1
    go_wp2_with fail
    refine (off_any g ao n cap cs _ R).mono ?_
    rintro e w5 ⟨_, rfl, ⟨d, rfl, id⟩, R1, K1⟩
    replace K := K.trans K1
    replace B := B.kept K1 hne
    clear R K1
    have R := R1
    clear R1
    have o0 := B.c 0 rfl; have f0 := B.f 0 rfl; have o1 := B.c 1 rfl; have f1 := B.f 1 rfl; have o2 := B.c 2 rfl; have f2 := B.f 2 rfl; have o3 := B.c 3 rfl; have f3 := B.f 3 rfl; have ol := B.lt
    clear B
    go_wp2
    refine bodyPost_ret (v := .agg #[.int .i64 a, .int .i64 b, .int .i64 c, .int .i64 d]) (by simp [results, Try.results47, go_sem, o0, o1, o2, o3]) rfl ?_
    exact ⟨_, rfl, ⟨_, _, _, _, rfl, ia, ib, ic, id⟩, (((R.setN (by exact hg) _).setN (by exact hg) _).setN (by exact hg) _).setN (by exact hg) _, (((K.setN (by simp) (by simp; omega) _).setN (by simp) (by simp; omega) _).setN (by simp) (by simp; omega) _).setN (by simp) (by simp; omega) _⟩
  · have b0 : (v == 0) = false := beq_eq_false_iff_ne.2 hv0
    by_cases hv1 : v = 1
    · subst hv1
      go_wp2_with fail
      refine (near_pm g ao n cap cs _ R).mono ?_
      rintro e w2 ⟨_, rfl, ⟨x, rfl, x0, x1⟩, R1, K1⟩
      replace K := K.trans K1
      replace B := B.kept K1 hne
      clear R K1
      have R := R1
      clear R1
      go_wp2_with fail
      refine (near_pm g ao n cap cs _ R).mono ?_
      rintro e w3 ⟨_, rfl, ⟨y, rfl, y0, y1⟩, R1, K1⟩
      replace K := K.trans K1
      replace B := B.kept K1 hne
      clear R K1
      have R := R1
      clear R1
      go_wp2_with fail
      refine (near_pm g ao n cap cs _ R).mono ?_
      rintro e w4 ⟨_, rfl, ⟨u, rfl, u0, u1⟩, R1, K1⟩
      replace K := K.trans K1
      replace B := B.kept K1 hne
      clear R K1
      have R := R1
      clear R1
      go_wp2_with fail
      refine (near_pm g ao n cap cs _ R).mono ?_
      rintro e w5 ⟨_, rfl, ⟨z, rfl, z0, z1⟩, R1, K1⟩
      replace K := K.trans K1
      replace B := B.kept K1 hne
      clear R K1
      have R := R1
      clear R1
      obtain ⟨a, b, c, d, k, ia, ib, ic, id, CS⟩ := segOf_ex x y u z (by constructor <;> omega) (by constructor <;> omega) (by constructor <;> omega) (by constructor <;> omega)
      go_wp2_with fail
      refine (CS _).mono ?_
      rintro e w6 ⟨rfl, hB⟩
      replace R := R.step hB
      replace K := K.trans (Kept.of hB)
      replace B := B.step hB
      clear hB
      clear CS
      have X := Blk.new w6 [.int .i64 a, .int .i64 b, .int .i64 c, .int .i64 d] 39 rfl
      rw [show ([.int .i64 a, .int .i64 b, .int .i64 c, .int .i64 d] : List Value).toArray = #[.int .i64 a, .int .i64 b, .int .i64 c, .int .i64 d] from rfl] at X
      replace R := R.alloc (.cells #[.int .i64 a, .int .i64 b, .int .i64 c, .int .i64 d] 39)
      replace K := K.alloc (.cells #[.int .i64 a, .int .i64 b, .int .i64 c, .int .i64 d] 39)
      replace B := B.alloc (.cells #[.int .i64 a, .int .i64 b, .int .i64 c, .int .i64 d] 39)
      obtain ⟨c0, c1, c2, c3⟩ := X.cs4
      have xl := B.lt
      clear X
      have o0 := B.c 0 rfl; have f0 := B.f 0 rfl; have o1 := B.c 1 rfl; have f1 := B.f 1 rfl; have o2 := B.c 2 rfl; have f2 := B.f 2 rfl; have o3 := B.c 3 rfl; have f3 := B.f 3 rfl; have ol := B.lt
      clear B
      go_wp2
      refine bodyPost_ret (v := .agg #[.int .i64 a, .int .i64 b, .int .i64 c, .int .i64 d]) (by simp [results, Try.results47, go_sem, o0, o1, o2, o3]) rfl ?_
      exact ⟨_, rfl, ⟨_, _, _, _, rfl, ia, ib, ic, id⟩, (((R.setN (by exact hg) _).setN (by exact hg) _).setN (by exact hg) _).setN (by exact hg) _, (((K.setN (by simp) (by simp; omega) _).setN (by simp) (by simp; omega) _).setN (by simp) (by simp; omega) _).setN (by simp) (by simp; omega) _⟩
    · have b1 : (v == 1) = false := beq_eq_false_iff_ne.2 hv1
      by_cases hv2 : v = 2
      · subst hv2
        go_wp2_with fail
        refine (spot_any g ao n cap cs _ R).mono ?_
        rintro e w2 ⟨_, rfl, ⟨x, y, rfl, x0, x1, y0, y1⟩, R1, K1⟩
        replace K := K.trans K1
        replace B := B.kept K1 hne
        clear R K1
        have R := R1
        clear R1
        go_wp2_with fail
        refine (spot_any g ao n cap cs _ R).mono ?_
        rintro e w3 ⟨_, rfl, ⟨u, z, rfl, u0, u1, z0, z1⟩, R1, K1⟩
        replace K := K.trans K1
        replace B := B.kept K1 hne
        clear R K1
        have R := R1
        clear R1
        have o0 := B.c 0 rfl; have f0 := B.f 0 rfl; have o1 := B.c 1 rfl; have f1 := B.f 1 rfl; have o2 := B.c 2 rfl; have f2 := B.f 2 rfl; have o3 := B.c 3 rfl; have f3 := B.f 3 rfl; have ol := B.lt
        clear B
        go_wp2
        refine bodyPost_ret (v := .agg #[.int .i64 x, .int .i64 y, .int .i64 u, .int .i64 z]) (by simp [results, Try.results47, go_sem, o0, o1, o2, o3]) rfl ?_
        exact ⟨_, rfl, ⟨_, _, _, _, rfl, (by constructor <;> omega), (by constructor <;> omega), (by constructor <;> omega), (by constructor <;> omega)⟩, (((R.setN (by exact hg) _).setN (by exact hg) _).setN (by exact hg) _).setN (by exact hg) _, (((K.setN (by simp) (by simp; omega) _).setN (by simp) (by simp; omega) _).setN (by simp) (by simp; omega) _).setN (by simp) (by simp; omega) _⟩
      · have b2 : (v == 2) = false := beq_eq_false_iff_ne.2 hv2
        go_wp2_with fail
        refine (spot_any g ao n cap cs _ R).mono ?_
        rintro e w2 ⟨_, rfl, ⟨x, y, rfl, x0, x1, y0, y1⟩, R1, K1⟩
        replace K := K.trans K1
        replace B := B.kept K1 hne
        clear R K1
        have R := R1
        clear R1
        have gl2 := R.lt
        have hn2 : w2.heap.size ≠ g := by omega
        have X2 := Blk.new w2 [.int .i64 x, .int .i64 y] 26 rfl
        rw [show ([.int .i64 x, .int .i64 y] : List Value).toArray = #[.int .i64 x, .int .i64 y] from rfl] at X2
        replace R := R.alloc (.cells #[.int .i64 x, .int .i64 y] 26)
        replace K := K.alloc (.cells #[.int .i64 x, .int .i64 y] 26)
        replace B := B.alloc (.cells #[.int .i64 x, .int .i64 y] 26)
        go_wp2_with fail
        refine (spot_any g ao n cap cs _ R).mono ?_
        rintro e w3 ⟨_, rfl, ⟨u, z, rfl, u0, u1, z0, z1⟩, R1, K1⟩
        replace K := K.trans K1
        replace B := B.kept K1 hne
        replace X2 := X2.kept K1 hn2
        clear R K1
        have R := R1
        clear R1
        have gl3 := R.lt
        have x2l := X2.lt
        have hwl := B.lt
        have Y2 := X2
        have YB := B
        have YR := R
        have YK := K
        have X3 := Blk.new w3 [.int .i64 u, .int .i64 z] 26 rfl
        rw [show ([.int .i64 u, .int .i64 z] : List Value).toArray = #[.int .i64 u, .int .i64 z] from rfl] at X3
        replace R := R.alloc (.cells #[.int .i64 u, .int .i64 z] 26)
        replace K := K.alloc (.cells #[.int .i64 u, .int .i64 z] 26)
        replace B := B.alloc (.cells #[.int .i64 u, .int .i64 z] 26)
        replace X2 := X2.alloc (.cells #[.int .i64 u, .int .i64 z] 26)
        have E := eqSpo x y u z
        have n32 : ¬ (w3.heap.size = w2.heap.size) := by omega
        have n23 : ¬ (w2.heap.size = w3.heap.size) := by omega
        by_cases he : x = u ∧ y = z
        · rw [decide_eq_true he.1, decide_eq_true he.2] at E
          obtain ⟨e1, e2⟩ := he
          have wr : IntKind.i64.wrap (u + 1) = u + 1 := by rw [IntKind.wrap_i64]; omega
          obtain ⟨p0, p1⟩ := X2.cs2
          obtain ⟨r0, rf0, r1, rf1⟩ := X3.cf2
          have x3l := X3.lt
          obtain ⟨a, b, c, d, k, ia, ib, ic, id, CS⟩ := segOf_ex x y (u + 1) z (by constructor <;> omega) (by constructor <;> omega) (by constructor <;> omega) (by constructor <;> omega)
          clear e1 e2
          go_upto_region 13 with fail
          clear p0 p1 r0 rf0 r1 rf1 X2 X3 E B R K x3l
          have X2 := Y2.alloc (.cells #[.int .i64 (u + 1), .int .i64 z] 26)
          have B := YB.alloc (.cells #[.int .i64 (u + 1), .int .i64 z] 26)
          have R := YR.alloc (.cells #[.int .i64 (u + 1), .int .i64 z] 26)
          have K := YK.alloc (.cells #[.int .i64 (u + 1), .int .i64 z] 26)
          have X3 := Blk.new w3 [.int .i64 (u + 1), .int .i64 z] 26 rfl
          rw [show ([.int .i64 (u + 1), .int .i64 z] : List Value).toArray = #[.int .i64 (u + 1), .int .i64 z] from rfl] at X3
          clear Y2 YB YR YK
          obtain ⟨p0, p1⟩ := X2.cs2
          obtain ⟨r0, r1⟩ := X3.cs2
          go_wp2_with fail
          clear p0 p1 r0 r1 X2 X3
          generalize (w3.alloc (.cells #[.int .i64 (u + 1), .int .i64 z] 26)) = W3 at *
          refine (CS _).mono ?_
          rintro e w4 ⟨rfl, hB⟩
          replace R := R.step hB
          replace K := K.trans (Kept.of hB)
          replace B := B.step hB
          clear hB CS
          have X := Blk.new w4 [.int .i64 a, .int .i64 b, .int .i64 c, .int .i64 d] 39 rfl
          rw [show ([.int .i64 a, .int .i64 b, .int .i64 c, .int .i64 d] : List Value).toArray = #[.int .i64 a, .int .i64 b, .int .i64 c, .int .i64 d] from rfl] at X
          replace R := R.alloc (.cells #[.int .i64 a, .int .i64 b, .int .i64 c, .int .i64 d] 39)
          replace K := K.alloc (.cells #[.int .i64 a, .int .i64 b, .int .i64 c, .int .i64 d] 39)
          replace B := B.alloc (.cells #[.int .i64 a, .int .i64 b, .int .i64 c, .int .i64 d] 39)
          obtain ⟨c0, c1, c2, c3⟩ := X.cs4
          have xl := B.lt
          clear X
          have o0 := B.c 0 rfl; have f0 := B.f 0 rfl; have o1 := B.c 1 rfl; have f1 := B.f 1 rfl; have o2 := B.c 2 rfl; have f2 := B.f 2 rfl; have o3 := B.c 3 rfl; have f3 := B.f 3 rfl; have ol := B.lt
          clear B
          go_wp2
          refine bodyPost_ret (v := .agg #[.int .i64 a, .int .i64 b, .int .i64 c, .int .i64 d]) (by simp [results, Try.results47, go_sem, o0, o1, o2, o3]) rfl ?_
          exact ⟨_, rfl, ⟨_, _, _, _, rfl, ia, ib, ic, id⟩, (((R.setN (by exact hg) _).setN (by exact hg) _).setN (by exact hg) _).setN (by exact hg) _, (((K.setN (by simp) (by simp; omega) _).setN (by simp) (by simp; omega) _).setN (by simp) (by simp; omega) _).setN (by simp) (by simp; omega) _⟩
        · have E' : ∀ w, (Op.equalIn 10000 26 (.agg #[.int .i64 x, .int .i64 y]) (.agg #[.int .i64 u, .int .i64 z])).run Try.prog w = .ok false w := by
            intro w
            rw [E w]
            congr 1
            simp only [Bool.and_eq_false_iff, decide_eq_false_iff_not]
            omega
          obtain ⟨p0, p1⟩ := X2.cs2
          obtain ⟨r0, r1⟩ := X3.cs2
          obtain ⟨a, b, c, d, k, ia, ib, ic, id, CS⟩ := segOf_ex x y u z (by constructor <;> omega) (by constructor <;> omega) (by constructor <;> omega) (by constructor <;> omega)
          clear he E Y2 YB YR YK
          go_wp2_with fail
          clear p0 p1 r0 r1 X2 X3 E'
          generalize (w3.alloc (.cells #[.int .i64 u, .int .i64 z] 26)) = W3 at *
          refine (CS _).mono ?_
          rintro e w4 ⟨rfl, hB⟩
          replace R := R.step hB
          replace K := K.trans (Kept.of hB)
          replace B := B.step hB
          clear hB CS
          have X := Blk.new w4 [.int .i64 a, .int .i64 b, .int .i64 c, .int .i64 d] 39 rfl
          rw [show ([.int .i64 a, .int .i64 b, .int .i64 c, .int .i64 d] : List Value).toArray = #[.int .i64 a, .int .i64 b, .int .i64 c, .int .i64 d] from rfl] at X
          replace R := R.alloc (.cells #[.int .i64 a, .int .i64 b, .int .i64 c, .int .i64 d] 39)
          replace K := K.alloc (.cells #[.int .i64 a, .int .i64 b, .int .i64 c, .int .i64 d] 39)
          replace B := B.alloc (.cells #[.int .i64 a, .int .i64 b, .int .i64 c, .int .i64 d] 39)
          obtain ⟨c0, c1, c2, c3⟩ := X.cs4
          have xl := B.lt
          clear X
          have o0 := B.c 0 rfl; have f0 := B.f 0 rfl; have o1 := B.c 1 rfl; have f1 := B.f 1 rfl; have o2 := B.c 2 rfl; have f2 := B.f 2 rfl; have o3 := B.c 3 rfl; have f3 := B.f 3 rfl; have ol := B.lt
          clear B
          go_wp2
          refine bodyPost_ret (v := .agg #[.int .i64 a, .int .i64 b, .int .i64 c, .int .i64 d]) (by simp [results, Try.results47, go_sem, o0, o1, o2, o3]) rfl ?_
          exact ⟨_, rfl, ⟨_, _, _, _, rfl, ia, ib, ic, id⟩, (((R.setN (by exact hg) _).setN (by exact hg) _).setN (by exact hg) _).setN (by exact hg) _, (((K.setN (by simp) (by simp; omega) _).setN (by simp) (by simp; omega) _).setN (by simp) (by simp; omega) _).setN (by simp) (by simp; omega) _⟩
end Go.Proofs.Ytjhmacpejfldoaa

/- Rows of segments: how they lie, and the walks over them. -/
namespace Go.Proofs.Ytjhmacpejfldoaa
open Go.RowKit
/-- n segments lie behind a slice's address, their numbers by x. -/
def SegIn (w : World) (ao : Option Addr) (n : Nat) (x : Nat → Int) : Prop :=
  ∀ i, i < n → ∃ A off, ao = some ⟨A, off, none⟩ ∧ A < w.heap.size ∧ ∀ j, j < 4 → w.cell? ⟨A, off + i * 4 + j, none⟩ = some (.int .i64 (x (i * 4 + j)))
theorem SegIn.step {w w' : World} {ao : Option Addr} {n : Nat} {x : Nat → Int} (h : SegIn w ao n x) (hB : Below w.heap.size w w') : SegIn w' ao n x := fun i hi => by
  obtain ⟨A, off, e, hA, hc⟩ := h i hi
  exact ⟨A, off, e, Nat.lt_of_lt_of_le hA hB.size, fun j hj => (hB.cell (p := ⟨A, off + i * 4 + j, none⟩) hA).trans (hc j hj)⟩
theorem SegIn.drew {w : World} {ao : Option Addr} {n : Nat} {x : Nat → Int} (h : SegIn w ao n x) : SegIn w.drew ao n x := h
/-- What is at fault in a row of segments. -/
def sgI (n : Nat) (x : Nat → Int) : Int := if 40 < n then 1 else if ∀ i, i < n → segOk (x (i * 4)) (x (i * 4 + 1)) (x (i * 4 + 2)) (x (i * 4 + 3)) = true then 0 else 2
set_option maxRecDepth 100000 in
set_option maxHeartbeats 2000000 in
theorem specSegsFault_any (ao : Option Addr) (n cap : Nat) (x : Nat → Int) (w : World) (hS : SegIn w ao n x) : Calls Try.prog 50 #[.slice ao n cap] w (VP (.int .i64 (sgI n x)) w) := by
  by_cases hn : 40 < n
  · have HO : Hid (sgI n x = 1) := by show _ = _; unfold sgI; rw [if_pos hn]
    go_enter Try.func50, Try.ntmps50
    have hn' : (40 : Int) < n := by omega
    clear hS
    go_wp2
    go_ret
    exact ⟨by rw [HO.out]; rfl, Below.refl _ _⟩
  · go_enter Try.func50, Try.ntmps50
    have hn' : (n : Int) ≤ 40 := by omega
    have HS : Hid (SegIn w ao n x) := hS
    clear hS
    go_wp2_with fail
    go_loopw [3] (fun i wr => ∃ c : Nat, c ≤ n ∧ i = .int .i64 c ∧ (∀ j, j < c → segOk (x (j * 4)) (x (j * 4 + 1)) (x (j * 4 + 2)) (x (j * 4 + 3)) = true) ∧ Below w.heap.size w wr) (fun i _ => n - (intOf i).toNat)
    case atStart => exact ⟨0, by omega, rfl, fun j hj => by omega, Below.refl _ _⟩
    case round =>
      obtain ⟨c, hc, rfl, hall, HB⟩ := hrel
      have HA : Hid (∀ j, j < c → segOk (x (j * 4)) (x (j * 4 + 1)) (x (j * 4 + 2)) (x (j * 4 + 3)) = true) := hall
      clear hall
      by_cases hcn : c < n
      · obtain ⟨A, off, rfl, hA, hcell⟩ := HS.out.step HB c hcn
        have q0 := hcell 0 (by omega); have q1 := hcell 1 (by omega); have q2 := hcell 2 (by omega); have q3 := hcell 3 (by omega)
        simp only [Nat.add_zero] at q0
        have hcI : (c : Int) < n := by omega
        have SO := fun w => specSegOk_any (x (c * 4)) (x (c * 4 + 1)) (x (c * 4 + 2)) (x (c * 4 + 3)) _ rfl w
        clear hcell
        go_wp2_with fail
        refine (SO _).mono ?_
        rintro e w1 ⟨rfl, hB⟩
        
        replace HB := HB.trans (hB.mono HB.size)
        clear hB q0 q1 q2 q3 SO hA
        by_cases hk : segOk (x (c * 4)) (x (c * 4 + 1)) (x (c * 4 + 2)) (x (c * 4 + 3)) = true
        · rw [hk]
          have HK : Hid (segOk (x (c * 4)) (x (c * 4 + 1)) (x (c * 4 + 2)) (x (c * 4 + 3)) = true) := hk
          clear hk
          go_wp2
          go_roundw
          case rel => exact ⟨c + 1, by omega, by go_num, fun j hj => by
            rcases Nat.lt_or_ge j c with h | h
            · exact HA.out j h
            · obtain rfl : j = c := by omega
              exact HK.out, HB⟩
          case measure => simp [intOf]; omega
        · have HO : Hid (sgI n x = 2) := by show _ = _; unfold sgI; rw [if_neg hn, if_neg (fun h => hk (h c hcn))]
          rw [Bool.eq_false_iff.2 hk]
          clear hk
          go_wp2
          go_ret
          exact ⟨by rw [HO.out]; rfl, HB⟩
      · obtain rfl : c = n := by omega
        have HO : Hid (sgI c x = 0) := by show _ = _; unfold sgI; rw [if_neg hn, if_pos HA.out]
        clear HA HS
        go_wp2
        go_ret
        exact ⟨by rw [HO.out]; rfl, HB⟩
set_option maxRecDepth 100000 in
set_option maxHeartbeats 2000000 in
theorem implSegsFault_any (ao : Option Addr) (n cap : Nat) (x : Nat → Int) (w : World) (hS : SegIn w ao n x) : Calls Try.prog 22 #[.slice ao n cap] w (VP (.int .i64 (sgI n x)) w) := by
  by_cases hn : 40 < n
  · have HO : Hid (sgI n x = 1) := by show _ = _; unfold sgI; rw [if_pos hn]
    go_enter Try.func22, Try.ntmps22
    have hn' : (40 : Int) < n := by omega
    clear hS
    go_wp2
    go_ret
    exact ⟨by rw [HO.out]; rfl, Below.refl _ _⟩
  · go_enter Try.func22, Try.ntmps22
    have hn' : (n : Int) ≤ 40 := by omega
    have HS : Hid (SegIn w ao n x) := hS
    clear hS
    go_wp2_with fail
    go_loopw [10] (fun i wr => ∃ c : Nat, c ≤ n ∧ i = .int .i64 c ∧ (∀ j, j < c → segOk (x (j * 4)) (x (j * 4 + 1)) (x (j * 4 + 2)) (x (j * 4 + 3)) = true) ∧ Below w.heap.size w wr) (fun i _ => n - (intOf i).toNat)
    case atStart => exact ⟨0, by omega, rfl, fun j hj => by omega, Below.refl _ _⟩
    case round =>
      obtain ⟨c, hc, rfl, hall, HB⟩ := hrel
      have HA : Hid (∀ j, j < c → segOk (x (j * 4)) (x (j * 4 + 1)) (x (j * 4 + 2)) (x (j * 4 + 3)) = true) := hall
      clear hall
      by_cases hcn : c < n
      · obtain ⟨A, off, rfl, hA, hcell⟩ := HS.out.step HB c hcn
        have q0 := hcell 0 (by omega); have q1 := hcell 1 (by omega); have q2 := hcell 2 (by omega); have q3 := hcell 3 (by omega)
        simp only [Nat.add_zero] at q0
        have hcI : (c : Int) < n := by omega
        have SO := fun w => implSegOk_any (x (c * 4)) (x (c * 4 + 1)) (x (c * 4 + 2)) (x (c * 4 + 3)) _ rfl w
        clear hcell
        go_wp2_with fail
        refine (SO _).mono ?_
        rintro e w1 ⟨rfl, hB⟩
        
        replace HB := (HB.alloc HB.size _).trans (hB.mono (HB.alloc HB.size _).size)
        clear hB q0 q1 q2 q3 SO hA
        by_cases hk : segOk (x (c * 4)) (x (c * 4 + 1)) (x (c * 4 + 2)) (x (c * 4 + 3)) = true
        · rw [hk]
          have HK : Hid (segOk (x (c * 4)) (x (c * 4 + 1)) (x (c * 4 + 2)) (x (c * 4 + 3)) = true) := hk
          clear hk
          go_wp2
          go_roundw
          case rel => exact ⟨c + 1, by omega, by go_num, fun j hj => by
            rcases Nat.lt_or_ge j c with h | h
            · exact HA.out j h
            · obtain rfl : j = c := by omega
              exact HK.out, HB⟩
          case measure => simp [intOf]; omega
        · have HO : Hid (sgI n x = 2) := by show _ = _; unfold sgI; rw [if_neg hn, if_neg (fun h => hk (h c hcn))]
          rw [Bool.eq_false_iff.2 hk]
          clear hk
          go_wp2
          go_ret
          exact ⟨by rw [HO.out]; rfl, HB⟩
      · obtain rfl : c = n := by omega
        have HO : Hid (sgI c x = 0) := by show _ = _; unfold sgI; rw [if_neg hn, if_pos HA.out]
        clear HA HS
        go_wp2
        go_ret
        exact ⟨by rw [HO.out]; rfl, HB⟩
end Go.Proofs.Ytjhmacpejfldoaa

/- Rows of segments of the call's own: how they lie, read and stored. -/
namespace Go.Proofs.Ytjhmacpejfldoaa
open Go.RowKit
theorem Try.infoSegD : (Try.prog.info? 39).map (fun i => (i.zero, i.size, i.bytes)) = some (some (.agg #[.int .i64 0, .int .i64 0, .int .i64 0, .int .i64 0]), 4, 32) := by kernel_rfl
theorem ownG_kept {w w' : World} {base n g : Nat} {e : TypeId} {size : Nat} {v : Value} {xs : List Value} (h : w.ownsRow base e size v n xs) (K : Kept g w w') (hg : g < base) : w'.ownsRow base e size v n xs := by
  rcases h with ⟨h0, h1 | ⟨b, cap, cur, h1, h2, h3, h4⟩⟩
  · exact ⟨h0, .inl h1⟩
  · refine ⟨h0, .inr ⟨b, cap, cur, h1, h2, ?_, h4⟩⟩
    rw [K.block b (Array.getElem?_eq_some_iff.1 h3).1 (by omega)]
    exact h3
theorem ownG_step {w w' : World} {base n : Nat} {e : TypeId} {size : Nat} {v : Value} {xs : List Value} (h : w.ownsRow base e size v n xs) (hB : Below w.heap.size w w') : w'.ownsRow base e size v n xs := by
  rcases h with ⟨h0, h1 | ⟨g, cap, cur, h1, h2, h3, h4⟩⟩
  · exact ⟨h0, .inl h1⟩
  · refine ⟨h0, .inr ⟨g, cap, cur, h1, h2, ?_, h4⟩⟩
    rw [hB.block g (Array.getElem?_eq_some_iff.1 h3).1]
    exact h3
theorem ownG_mono {w : World} {b b' n : Nat} {e : TypeId} {size : Nat} {v : Value} {xs : List Value} (h : w.ownsRow b' e size v n xs) (hb : b ≤ b') : w.ownsRow b e size v n xs := by
  rcases h with ⟨h0, h1 | ⟨g, cap, cur, h1, h2, h3⟩⟩
  · exact ⟨h0, .inl h1⟩
  · exact ⟨h0, .inr ⟨g, cap, cur, h1, Nat.le_trans hb h2, h3⟩⟩
theorem ownG_form {w : World} {base n : Nat} {e : TypeId} {size : Nat} {v : Value} {xs : List Value} (h : w.ownsRow base e size v n xs) (hn : 0 < n) : ∃ g cap, v = .slice (some ⟨g, 0, none⟩) n cap ∧ base ≤ g ∧ n ≤ cap ∧ cap ≤ maxLen := by
  rcases h.2 with ⟨_, h0⟩ | ⟨g, cap, cur, hv, hb, _, h1, h2, _⟩
  · omega
  · exact ⟨g, cap, hv, hb, h1, h2⟩
theorem ownG_slice {w : World} {base n : Nat} {e : TypeId} {size : Nat} {v : Value} {xs : List Value} (h : w.ownsRow base e size v n xs) : ∃ ao cap, v = .slice ao n cap := by
  rcases h.2 with ⟨h1, h0⟩ | ⟨g, cap, cur, hv, hb, _⟩
  · subst h0; exact ⟨none, 0, h1⟩
  · exact ⟨_, cap, hv⟩
theorem ownG_blk {w : World} {base g n cap : Nat} {e : TypeId} {size : Nat} {xs : List Value} (h : w.ownsRow base e size (.slice (some ⟨g, 0, none⟩) n cap) n xs) : Blk w g xs := by
  refine ⟨(h.lt g rfl).2, fun i v hi => ⟨?_, ?_⟩⟩
  · have h1 := h.cells rfl i v hi
    have hadd : (⟨g, 0, none⟩ : Addr).add i = ⟨g, i, none⟩ := by unfold Addr.add; split <;> simp_all
    rw [hadd] at h1
    exact h1
  · rcases h.2 with ⟨h', _⟩ | ⟨g', cap', cur, h', _, hg, _⟩
    · cases h'
    · cases h'
      simp [World.frozen?, hg]
theorem ownG_set {w : World} {base g n cap : Nat} {e : TypeId} {size : Nat} {xs : List Value} (h : w.ownsRow base e size (.slice (some ⟨g, 0, none⟩) n cap) n xs) (j : Nat) (u : Value) : (w.setCell ⟨g, j, none⟩ u).ownsRow base e size (.slice (some ⟨g, 0, none⟩) n cap) n (xs.set j u) := by
  refine ⟨by rw [List.length_set]; exact h.1, ?_⟩
  rcases h.2 with ⟨h', _⟩ | ⟨g', cap', cur, h', hb, hg, h1, h2, h3, h4⟩
  · cases h'
  · cases h'
    refine .inr ⟨g, cap, cur.setIfInBounds j u, rfl, hb, ?_, h1, h2, by simpa using h3, ?_⟩
    · simp [World.setCell, Array.getElem?_modify, hg]
    · rw [← h4]
      simp [List.take_set]
theorem four_new (w : World) (a b c d : Value) (t : TypeId) : ∀ j u, [a, b, c, d][j]? = some u → (w.alloc (.cells #[a, b, c, d] t)).cell? ((⟨w.heap.size, 0, none⟩ : Addr).add j) = some u := by
  intro j u hj
  match j, hj with
  | 0, hj => simp at hj; subst hj; simp [Addr.add]
  | 1, hj => simp at hj; subst hj; simp [Addr.add]
  | 2, hj => simp at hj; subst hj; simp [Addr.add]
  | 3, hj => simp at hj; subst hj; simp [Addr.add]
  | j + 4, hj => simp at hj
theorem four_one (x y z t : Int) : ∀ u ∈ [Value.int .i64 x, Value.int .i64 y, Value.int .i64 z, Value.int .i64 t], u.oneCell' = true := by
  intro u hu
  simp only [List.mem_cons, List.not_mem_nil, or_false] at hu
  rcases hu with rfl | rfl | rfl | rfl <;> rfl
/-- A row of the call's own: c segments, their numbers one behind the other. -/
structure SgRow (w : World) (base : Nat) (v : Value) (c : Nat) (L : List Int) : Prop where
  own : w.ownsRow base 39 4 v c (L.map (Value.int .i64))
  i64 : ∀ z ∈ L, I64 z
theorem SgRow.len {w : World} {base : Nat} {v : Value} {c : Nat} {L : List Int} (h : SgRow w base v c L) : L.length = c * 4 := by
  have := h.own.1
  simpa using this
theorem SgRow.in {w : World} {base : Nat} {v : Value} {c : Nat} {L : List Int} (h : SgRow w base v c L) : ∃ ao cap, v = .slice ao c cap ∧ SegIn w ao c (fun i => L.getD i 0) := by
  rcases Nat.eq_zero_or_pos c with h0 | h0
  · subst h0
    obtain ⟨ao, cap, hv⟩ := ownG_slice h.own
    exact ⟨ao, cap, hv, fun i hi => by omega⟩
  · obtain ⟨g, cap, hv, hb, _⟩ := ownG_form h.own h0
    have hl := h.len
    have ho := h.own
    rw [hv] at ho
    have B := ownG_blk ho
    refine ⟨_, cap, hv, fun i hi => ⟨g, 0, rfl, B.lt, fun j hj => ?_⟩⟩
    rw [Nat.zero_add]
    refine B.c (i * 4 + j) ?_
    have hl2 : i * 4 + j < L.length := by omega
    show _ = some (Value.int .i64 (L.getD (i * 4 + j) 0))
    rw [List.getElem?_map, List.getElem?_eq_getElem hl2, List.getD_eq_getElem?_getD, List.getElem?_eq_getElem hl2]
    rfl
/-- The four numbers of one of them. -/
theorem SgRow.four {w : World} {base : Nat} {v : Value} {c : Nat} {L : List Int} (h : SgRow w base v c L) {i : Nat} (hi : i < c) : ∃ g cap a b d e, v = .slice (some ⟨g, 0, none⟩) c cap ∧ base ≤ g ∧ g < w.heap.size ∧ w.cell? ⟨g, i * 4, none⟩ = some (.int .i64 a) ∧ w.cell? ⟨g, i * 4 + 1, none⟩ = some (.int .i64 b) ∧ w.cell? ⟨g, i * 4 + 2, none⟩ = some (.int .i64 d) ∧ w.cell? ⟨g, i * 4 + 3, none⟩ = some (.int .i64 e) ∧ w.cell? ⟨g, i * 4 + 2 + 1, none⟩ = some (.int .i64 e) ∧ I64 a ∧ I64 b ∧ I64 d ∧ I64 e := by
  obtain ⟨g, cap, hv, hb, _⟩ := ownG_form h.own (by omega)
  have hl := h.len
  have ho := h.own
  rw [hv] at ho
  have B := ownG_blk ho
  have hc : ∀ k (hk : k < L.length), w.cell? ⟨g, k, none⟩ = some (.int .i64 L[k]) ∧ I64 L[k] := fun k hk => ⟨B.c k (by rw [List.getElem?_map, List.getElem?_eq_getElem hk]; rfl), h.i64 _ (List.getElem_mem hk)⟩
  have c0 := hc (i * 4) (by omega)
  have c1 := hc (i * 4 + 1) (by omega)
  have c2 := hc (i * 4 + 2) (by omega)
  have c3 := hc (i * 4 + 3) (by omega)
  exact ⟨g, cap, _, _, _, _, hv, hb, B.lt, c0.1, c1.1, c2.1, c3.1, c3.1, c0.2, c1.2, c2.2, c3.2⟩
theorem SgRow.kept {w w' : World} {base : Nat} {v : Value} {c g : Nat} {L : List Int} (h : SgRow w base v c L) (K : Kept g w w') (hg : g < base) : SgRow w' base v c L := ⟨ownG_kept h.own K hg, h.i64⟩
theorem SgRow.step {w w' : World} {base : Nat} {v : Value} {c : Nat} {L : List Int} (h : SgRow w base v c L) (hB : Below w.heap.size w w') : SgRow w' base v c L := ⟨ownG_step h.own hB, h.i64⟩
theorem SgRow.alloc {w : World} {base : Nat} {v : Value} {c : Nat} {L : List Int} (h : SgRow w base v c L) (o : Obj) : SgRow (w.alloc o) base v c L := h.step ((Below.refl _ _).alloc (Nat.le_refl _) o)
theorem SgRow.mono {w : World} {b b' : Nat} {v : Value} {c : Nat} {L : List Int} (h : SgRow w b' v c L) (hb : b ≤ b') : SgRow w b v c L := ⟨ownG_mono h.own hb, h.i64⟩
theorem SgRow.app {w : World} {base : Nat} {v : Value} {c : Nat} {L : List Int} {p q r s : Int} (h : w.ownsRow base 39 4 v (c + 1) (L.map (Value.int .i64) ++ [.int .i64 p, .int .i64 q, .int .i64 r, .int .i64 s])) (hL : ∀ z ∈ L, I64 z) (hp : I64 p) (hq : I64 q) (hr : I64 r) (hs : I64 s) : SgRow w base v (c + 1) (L ++ [p, q, r, s]) := by
  refine ⟨by rw [List.map_append]; exact h, fun z hz => ?_⟩
  rcases List.mem_append.1 hz with hz | hz
  · exact hL z hz
  · simp only [List.mem_cons, List.not_mem_nil, or_false] at hz
    rcases hz with rfl | rfl | rfl | rfl <;> assumption
theorem SgRow.set {w : World} {base g c cap : Nat} {L : List Int} (h : SgRow w base (.slice (some ⟨g, 0, none⟩) c cap) c L) (j : Nat) {u : Int} (hu : I64 u) : SgRow (w.setCell ⟨g, j, none⟩ (.int .i64 u)) base (.slice (some ⟨g, 0, none⟩) c cap) c (L.set j u) := by
  refine ⟨by rw [List.map_set]; exact ownG_set h.own j _, fun z hz => ?_⟩
  rcases List.mem_or_eq_of_mem_set hz with hz | hz
  · exact h.i64 z hz
  · subst hz; exact hu
theorem kept_grown {g : Nat} {w W W' : World} {row : Option Nat} (K : Kept g w W) (hg : W.grownBy W' row) (hr : ∀ k, row = some k → w.heap.size ≤ k) : Kept g w W' := by
  have hs := K.size
  have hb : ∀ k, k < w.heap.size → W'.heap[k]? = W.heap[k]? := fun k hk => hg.block k (by omega) (by intro e; have := hr k e.symm; omega)
  exact ⟨hg.os.trans K.os, hg.tape.trans K.tape, hg.output.trans K.output, Nat.le_trans K.size hg.size, fun k hk hne => (hb k hk).trans (K.block k hk hne), fun j hj hl => (World.cell?_of_block (a := ⟨g, j, none⟩) (hb g hl)).trans (K.other j hj hl)⟩
theorem rdr_grown {w w' : World} {g : Nat} {ao : Option Addr} {n cap : Nat} {cs : List Int} {row : Option Nat} (h : Rdr w g ao n cap cs) (hg : w.grownBy w' row) (hr : ∀ k, row = some k → g < k) : Rdr w' g ao n cap cs := by
  have hl := h.lt
  have hb : ∀ k, k ≤ g → w'.heap[k]? = w.heap[k]? := fun k hk => hg.block k (by omega) (by intro e; have := hr k e.symm; omega)
  obtain ⟨p, hp, B⟩ := h.blk
  refine ⟨⟨p, hp, Nat.lt_of_lt_of_le B.lt hg.size, fun i v hi => ⟨(World.cell?_of_block (hb g (Nat.le_refl _))).trans (B.c i hi), (World.frozen?_of_block (hb g (Nat.le_refl _))).trans (B.f i hi)⟩⟩, fun i hi => ?_, h.len, h.small, h.byte⟩
  obtain ⟨b, off, e, hlt, hc⟩ := h.bytes i hi
  exact ⟨b, off, e, hlt, (World.cell?_of_block (hb b (by omega))).trans hc⟩
end Go.Proofs.Ytjhmacpejfldoaa

/- A region that draws its order, by a condition that every operation keeps, whichever comes up: no order is walked. -/
namespace Go.Proofs.Ytjhmacpejfldoaa
variable {P : Program} {ops : Array Oper} {Q : Exit → Act → World → Prop} {md : Region.Mode}
def open_ (l : Array Bool) : Nat := l.toList.countP (fun b => !b)
theorem open_set {l : Array Bool} {i : Nat} (h : l.getD i true = false) : open_ (l.setIfInBounds i true) + 1 = open_ l := by
  obtain ⟨xs⟩ := l
  have hi : i < xs.length := by
    rcases Nat.lt_or_ge i xs.length with h' | h'
    · exact h'
    · simp [Array.getD, Nat.not_lt.2 h'] at h
  have hv : xs[i] = false := by simpa [Array.getD, hi] using h
  have hp : 0 < xs.countP (fun b => !b) := List.countP_pos_iff.2 ⟨xs[i], List.getElem_mem hi, by simp [hv]⟩
  simp only [open_, List.setIfInBounds_toArray, List.countP_set hi, hv]
  simp
  omega
theorem wpAny_inv (J : Array Bool → Act → World → Prop) (hs : ∀ l a w i o, J l a w → l.getD i true = false → ops[i]? = some o → (∀ e ∈ o.after, Region.binds md e = true → l.getD e.on false = true) → wpOp P ops Q i (J (l.setIfInBounds i true)) a w)
    (hd : ∀ l a w, J l a w → Region.ready md ops l = [] → Q .normal a w) : ∀ (fuel : Nat) (l : Array Bool) (a : Act) (w : World), open_ l ≤ fuel → J l a w → wpAny P md ops Q fuel l a w := by
  intro fuel
  induction fuel with
  | zero =>
    intro l a w hf hJ
    have hr : Region.ready md ops l = [] := by
      rw [List.eq_nil_iff_forall_not_mem]
      intro i hi
      have := open_set (mem_ready.1 hi).1
      omega
    exact ⟨hr, hd l a w hJ hr⟩
  | succ fuel ih =>
    intro l a w hf hJ
    refine ⟨fun hr => hd l a w hJ hr, fun i hi => ?_⟩
    obtain ⟨h0, o, ho, hall⟩ := mem_ready.1 hi
    exact wpOp_mono (fun a' w' h' => ih _ a' w' (by have := open_set h0; omega) h') (hs l a w i o hJ h0 ho hall)
theorem wp_region_inv {id : Nat} {a : Act} {w : World} (hm : P.follows .mixedOrders = true) (J : Array Bool → Act → World → Prop)
    (h0 : J (Array.replicate ops.size false) a { w with drawn := w.drawn + 1 })
    (hs : ∀ l a w i o, J l a w → l.getD i true = false → ops[i]? = some o → (∀ e ∈ o.after, Region.binds .any e = true → l.getD e.on false = true) → wpOp P ops Q i (J (l.setIfInBounds i true)) a w)
    (hd : ∀ l a w, J l a w → Region.ready .any ops l = [] → Q .normal a w) : (Code.region id ops true).wp P Q a w :=
  wp_region_any hm (wpAny_inv J hs hd _ _ _ _ (by
    unfold open_
    refine Nat.le_trans List.countP_le_length ?_
    simp) h0)
/-- The operations of a list, each of which waits for none but those ahead of it. -/
def waits (md : Region.Mode) (ops : Array Oper) : List Nat → List Nat → Bool
  | _, [] => true
  | acc, i :: r => ((ops[i]?).map (fun o => o.after.all (fun e => !Region.binds md e || acc.contains e.on))).getD false && waits md ops (i :: acc) r
/-- Where none is ready, all of such a list have come up. -/
theorem listed_of {l : Array Bool} (hr : Region.ready md ops l = []) : ∀ (r acc : List Nat), (∀ k ∈ acc, l.getD k false = true) → waits md ops acc r = true → (∀ k ∈ r, k < l.size) → ∀ k ∈ r, l.getD k false = true
  | [], _, _, _, _ => fun k hk => by simp at hk
  | i :: r, acc, ha, hw, hz => by
    simp only [waits, Bool.and_eq_true] at hw
    obtain ⟨hw1, hw2⟩ := hw
    have hi : l.getD i false = true := by
      cases ho : ops[i]? with
      | none => rw [ho] at hw1; simp at hw1
      | some o =>
        rw [ho] at hw1
        have hall : ∀ e ∈ o.after, Region.binds md e = true → l.getD e.on false = true := fun e he hb => by
          have h2 : o.after.all (fun e => !Region.binds md e || acc.contains e.on) = true := by simpa using hw1
          rw [Array.all_eq_true'] at h2
          have h3 := h2 e he
          rw [hb] at h3
          exact ha _ (by simpa using h3)
        have hz' := hz i (by simp)
        by_cases hc : l.getD i true = false
        · have : i ∈ Region.ready md ops l := mem_ready.2 ⟨hc, o, ho, hall⟩
          rw [hr] at this
          simp at this
        · simpa [Array.getD, hz'] using hc
    intro k hk
    rcases List.mem_cons.1 hk with rfl | hk
    · exact hi
    · exact listed_of hr r (i :: acc) (fun k hk => by
        rcases List.mem_cons.1 hk with rfl | hk
        · exact hi
        · exact ha k hk) hw2 (fun k hk => hz k (by simp [hk])) k hk
/-- One operation that is not guarded: what it does when it is carried out. -/
theorem wpOp_of {i : Nat} {o : Oper} {a : Act} {w : World} {K : Act → World → Prop} (ho : ops[i]? = some o) (hg : o.guard = none) (h : o.wp P a w K Q) : wpOp P ops Q i K a w := by
  unfold wpOp
  simp only [ho]
  have hw : Region.wanted o (yielded ops a.tmps) = true := by unfold Region.wanted; rw [hg]
  rw [if_pos hw]
  exact .inl h
/-- A frame that differs from another one at the told slots alone is that one with these slots put. -/
theorem tmps_fold : ∀ (D : List Nat) (t s : Array Value), t.size = s.size → (∀ d, d ∉ D → t[d]? = s[d]?) → t = D.foldl (fun u d => u.setIfInBounds d (t.getD d undef)) s
  | [], t, s, _, h => Array.ext_getElem? (fun d => h d (by simp))
  | d :: D, t, s, hz, h => by
    rw [List.foldl_cons]
    refine tmps_fold D t _ (by simpa using hz) (fun e he => ?_)
    by_cases hed : e = d
    · subst hed
      rcases Nat.lt_or_ge e t.size with h' | h'
      · simp [Array.getD, h', ← hz]
      · simp [← hz, h']
    · rw [Array.getElem?_setIfInBounds_ne (fun hh => hed hh.symm)]
      exact h e (by simp [hed, he])
theorem put_getD_ne {a : Act} {d e : Nat} {v : Value} (h : d ≠ e) : (a.put (some d) v).tmps.getD e undef = a.tmps.getD e undef := by
  simp [Act.put, Array.getD_eq_getD_getElem?, Array.getElem?_setIfInBounds_ne h]
theorem put_getD_same {a : Act} {d : Nat} {v : Value} (h : d < a.tmps.size) : (a.put (some d) v).tmps.getD d undef = v := by
  simp [Act.put, Array.getD_eq_getD_getElem?, h]
end Go.Proofs.Ytjhmacpejfldoaa

/- Operations that are guarded, in a region that is taken by a condition. -/
namespace Go.Proofs.Ytjhmacpejfldoaa
variable {P : Program} {ops : Array Oper} {Q : Exit → Act → World → Prop}
end Go.Proofs.Ytjhmacpejfldoaa

/- A region that draws its order, by what each slot holds once its operation has come up: the general form. -/
namespace Go.Proofs.Ytjhmacpejfldoaa
open Go.RowKit
variable {P : Program} {ops : Array Oper}
/-- No slot is written by two operations. -/
def distS : List (Option Nat) → Bool
  | [] => true
  | none :: r => distS r
  | some d :: r => !(r.contains (some d)) && distS r
theorem distS_inj : ∀ (S : List (Option Nat)) (i j d : Nat), distS S = true → S[i]? = some (some d) → S[j]? = some (some d) → i = j
  | [], i, _, _, _, h, _ => by simp at h
  | o :: r, i, j, d, hd, hi, hj => by
    have hr : distS r = true := by
      cases o with
      | none => exact hd
      | some d' => simp only [distS, Bool.and_eq_true] at hd; exact hd.2
    have hno : ∀ k, o = some d → r[k]? = some (some d) → False := fun k ho hk => by
      subst ho
      simp only [distS, Bool.and_eq_true, Bool.not_eq_true'] at hd
      have hm : some d ∈ r := List.mem_of_getElem? hk
      rw [← List.contains_iff_mem, hd.1] at hm
      cases hm
    match i, j with
    | 0, 0 => rfl
    | 0, j + 1 => exact (hno j (by simpa using hi) (by simpa using hj)).elim
    | i + 1, 0 => exact (hno i (by simpa using hj) (by simpa using hi)).elim
    | i + 1, j + 1 => exact congrArg (· + 1) (distS_inj r i j d hr (by simpa using hi) (by simpa using hj))
/-- What every operation keeps. -/
def InvQ (B : Nat) (S : List (Option Nat)) (V : Nat → Value → World → Prop) (w0 : World) (a0 : Act) (l : Array Bool) (a : Act) (W : World) : Prop :=
  l.size = S.length ∧ a.tmps.size = a0.tmps.size ∧ a.defers = a0.defers ∧ (∀ e, some e ∉ S → a.tmps[e]? = a0.tmps[e]?) ∧ Below B w0 W ∧ (∀ j d, l.getD j false = true → S[j]? = some (some d) → V j (a.tmps.getD d undef) W) ∧ (∀ j, l.getD j false = true → S[j]? = some none → V j undef W)
theorem getD_set_q {l : Array Bool} {i j : Nat} (h : (l.setIfInBounds i true).getD j false = true) (hne : j ≠ i) : l.getD j false = true := by
  rw [getD_set_ne false (Ne.symm hne)] at h
  exact h
theorem InvQ.put {B : Nat} {S : List (Option Nat)} {V : Nat → Value → World → Prop} {w0 : World} {a0 : Act} {l : Array Bool} {a : Act} {W W' : World} (h : InvQ B S V w0 a0 l a W) (hS : distS S = true) (i d : Nat) (hi : S[i]? = some (some d)) (hlt : d < a0.tmps.size)
    (hW : Below B w0 W') (hT : ∀ j v, V j v W → V j v W') (v : Value) (hv : V i v W') : InvQ B S V w0 a0 (l.setIfInBounds i true) (a.put (some d) v) W' := by
  obtain ⟨h1, h2, h3, h4, h5, h6, h7⟩ := h
  refine ⟨by simpa using h1, by simpa [Act.put] using h2, h3, fun e he => ?_, hW, fun j d' hj hd' => ?_, fun j hj hn => ?_⟩
  · have hne : d ≠ e := fun hh => he (hh ▸ List.mem_of_getElem? hi)
    simp only [Act.put]
    rw [Array.getElem?_setIfInBounds_ne hne]
    exact h4 e he
  · by_cases hji : j = i
    · subst hji
      rw [hi] at hd'
      cases hd'
      rw [put_getD_same (by omega)]
      exact hv
    · have hne : d ≠ d' := fun hh => hji (distS_inj S j i d hS (hh ▸ hd') hi)
      rw [put_getD_ne hne]
      exact hT _ _ (h6 j d' (getD_set_q hj hji) hd')
  · have hji : j ≠ i := fun hh => by subst hh; rw [hi] at hn; cases hn
    exact hT _ _ (h7 j (getD_set_q hj hji) hn)
theorem InvQ.world {B : Nat} {S : List (Option Nat)} {V : Nat → Value → World → Prop} {w0 : World} {a0 : Act} {l : Array Bool} {a : Act} {W W' : World} (h : InvQ B S V w0 a0 l a W) (i : Nat) (hi : S[i]? = some none)
    (hW : Below B w0 W') (hT : ∀ j v, V j v W → V j v W') (hv : V i undef W') : InvQ B S V w0 a0 (l.setIfInBounds i true) a W' := by
  obtain ⟨h1, h2, h3, h4, h5, h6, h7⟩ := h
  refine ⟨by simpa using h1, h2, h3, h4, hW, fun j d hj hd => ?_, fun j hj hn => ?_⟩
  · have hji : j ≠ i := fun hh => by subst hh; rw [hi] at hd; cases hd
    exact hT _ _ (h6 j d (getD_set_q hj hji) hd)
  · by_cases hji : j = i
    · subst hji; exact hv
    · exact hT _ _ (h7 j (getD_set_q hj hji) hn)
theorem wp_region_q {Q : Exit → Act → World → Prop} {id : Nat} {a0 : Act} {w0 : World} (hm : P.follows .mixedOrders = true) (B : Nat) (S : List (Option Nat)) (V : Nat → Value → World → Prop) (hSz : ops.size = S.length)
    (hs : ∀ (Q : Exit → Act → World → Prop) l a W i o, InvQ B S V w0 a0 l a W → l.getD i true = false → ops[i]? = some o → (∀ e ∈ o.after, Region.binds .any e = true → l.getD e.on false = true) → wpOp P ops Q i (InvQ B S V w0 a0 (l.setIfInBounds i true)) a W)
    (hd : ∀ l a W, InvQ B S V w0 a0 l a W → Region.ready .any ops l = [] → Q .normal a W) : (Code.region id ops true).wp P Q a0 w0 := by
  refine wp_region_inv hm (InvQ B S V w0 a0) ⟨by simpa using hSz, rfl, rfl, fun _ _ => rfl, (Below.refl _ w0).drew, fun j d hj => ?_, fun j hj => ?_⟩ (hs Q) hd
  all_goals
    exfalso
    rw [Array.getD_eq_getD_getElem?, Array.getElem?_replicate] at hj
    split at hj <;> simp at hj
/-- A block of so many cells. -/
def BlkN (W : World) (g n : Nat) : Prop := ∃ vs : List Value, vs.length = n ∧ Blk W g vs
theorem BlkN.step {W W' : World} {g n : Nat} (h : BlkN W g n) (hB : Below W.heap.size W W') : BlkN W' g n := by
  obtain ⟨vs, h1, h2⟩ := h
  exact ⟨vs, h1, h2.step hB⟩
theorem Blk.setA {W : World} {g : Nat} {vs : List Value} (h : Blk W g vs) (j : Nat) (u : Value) : Blk (W.setCell ⟨g, j, none⟩ u) g (vs.set j u) := by
  rcases Nat.lt_or_ge j vs.length with hj | hj
  · exact h.setI j hj u
  · refine ⟨by simpa [World.setCell] using h.1, fun i v hi => ?_⟩
    rw [List.set_eq_of_length_le hj] at hi
    have hne : i ≠ j := fun e => by
      subst e
      rw [List.getElem?_eq_none hj] at hi
      cases hi
    exact ⟨(World.cell?_setCell_other _ _ _ _ (by simp)).trans (h.c i hi), by simp [go_sem, h.f i hi]⟩
theorem BlkN.set {W : World} {g n : Nat} (h : BlkN W g n) (g' j : Nat) (u : Value) : BlkN (W.setCell ⟨g', j, none⟩ u) g n := by
  obtain ⟨vs, h1, h2⟩ := h
  by_cases hg : g = g'
  · subst hg
    exact ⟨vs.set j u, by simpa using h1, h2.setA j u⟩
  · exact ⟨vs, h1, h2.setO (p := ⟨g', j, none⟩) hg u⟩
end Go.Proofs.Ytjhmacpejfldoaa
