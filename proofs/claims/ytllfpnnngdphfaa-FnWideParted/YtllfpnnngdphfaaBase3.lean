/- Part 3 of the walks that the proof leans on. -/
import Derived.Test.YtllfpnnngdphfaaBase2
import Derived.Test.YtllfpnnngdphfaaBase1
import Derived.Laws.Externs
import Derived.Shelf.Spec.BitsCarry
import Derived.BigRegion
import Derived.Deep.RegionWith
import Derived.Deep.RegionHeld3
import Derived.Deep.DeepCutAuto
/- Numbers of four words drawn from a code: the walk. -/
namespace Go.Proofs.Ytllfpnnngdphfaa
open Go.RowKit
theorem Rdr.setN {w : World} {g : Nat} {ao : Option Addr} {n cap : Nat} {cs : List Int} (h : Rdr w g ao n cap cs) {p : Addr} (hp : g < p.block) (u : Value) : Rdr (w.setCell p u) g ao n cap cs := by
  obtain ⟨q, hq, B⟩ := h.blk
  refine ⟨⟨q, hq, B.setO (by omega) u⟩, fun i hi => ?_, h.len, h.small, h.byte⟩
  obtain ⟨b, off, e, hb, hc⟩ := h.bytes i hi
  exact ⟨b, off, e, hb, (World.cell?_setCell_other _ _ _ _ (by intro e; rw [e] at hp; simp at hp; omega)).trans hc⟩
theorem Kept.setN {g : Nat} {a b : World} (h : Kept g a b) {p : Addr} (hp : a.heap.size ≤ p.block) (hg : g ≠ p.block) (u : Value) : Kept g a (b.setCell p u) :=
  ⟨h.os, h.tape, h.output, by simpa [World.setCell] using h.size, fun k hk hne => (Below.heap_setCell _ _ _ _ (by omega)).trans (h.block k hk hne), fun j hj hl => (World.cell?_setCell_other _ _ _ _ (by intro e; rw [e] at hg; exact hg rfl)).trans (h.other j hj hl)⟩
def IsWide (v : Value) : Prop := ∃ a3 a2 a1 a0 : Int, v = .agg #[.int .u64 a3, .int .u64 a2, .int .u64 a1, .int .u64 a0] ∧ Word a3 ∧ Word a2 ∧ Word a1 ∧ Word a0
theorem wide_done {w W : World} {g : Nat} {ao : Option Addr} {n cap : Nat} {cs : List Int} {a3 a2 a1 a0 : Int} (hg : g < w.heap.size) (R : Rdr W g ao n cap cs) (K : Kept g w W) (h3 : Word a3) (h2 : Word a2) (h1 : Word a1) (h0 : Word a0) {v0 v1 v2 v3 : Value} :
    RdP g ao n cap cs IsWide w (.returned (.agg #[.int .u64 a3, .int .u64 a2, .int .u64 a1, .int .u64 a0])) ((((W.setCell ⟨w.heap.size, 0, none⟩ v0).setCell ⟨w.heap.size, 1, none⟩ v1).setCell ⟨w.heap.size, 2, none⟩ v2).setCell ⟨w.heap.size, 3, none⟩ v3) :=
  ⟨_, rfl, ⟨a3, a2, a1, a0, rfl, h3, h2, h1, h0⟩, (((R.setN hg _).setN hg _).setN hg _).setN hg _, (((K.setN (Nat.le_refl _) (by show g ≠ w.heap.size; omega) _).setN (Nat.le_refl _) (by show g ≠ w.heap.size; omega) _).setN (Nat.le_refl _) (by show g ≠ w.heap.size; omega) _).setN (Nat.le_refl _) (by show g ≠ w.heap.size; omega) _⟩
theorem wide_done2 {w W : World} {g : Nat} {ao : Option Addr} {n cap : Nat} {cs : List Int} {a3 a2 a1 a0 : Int} (hg : g < w.heap.size) (R : Rdr W g ao n cap cs) (K : Kept g w W) (h3 : Word a3) (h2 : Word a2) (h1 : Word a1) (h0 : Word a0) {v0 v1 v2 v3 : Value} {o : Obj} :
    RdP g ao n cap cs IsWide w (.returned (.agg #[.int .u64 a3, .int .u64 a2, .int .u64 a1, .int .u64 a0])) (((((W.setCell ⟨w.heap.size, 0, none⟩ v0).setCell ⟨w.heap.size, 1, none⟩ v1).setCell ⟨w.heap.size, 2, none⟩ v2).setCell ⟨w.heap.size, 3, none⟩ v3).alloc o) := by
  obtain ⟨v, e, q, R', K'⟩ := wide_done (v0 := v0) (v1 := v1) (v2 := v2) (v3 := v3) hg R K h3 h2 h1 h0
  exact ⟨v, e, q, R'.alloc o, K'.alloc o⟩
theorem pick7 {W : World} {G : Nat} (h : Blk W G [.int .i64 0, .int .i64 1, .int .i64 (-1), .int .i64 2, .int .i64 10, .int .i64 (-9223372036854775808), .int .i64 9223372036854775807]) (k : Nat) (hk : k < 7) : ∃ v : Int, W.cell? ⟨G, k, none⟩ = some (.int .i64 v) ∧ -9223372036854775808 ≤ v ∧ v ≤ 9223372036854775807 := by
  rcases (by omega : k = 0 ∨ k = 1 ∨ k = 2 ∨ k = 3 ∨ k = 4 ∨ k = 5 ∨ k = 6) with rfl | rfl | rfl | rfl | rfl | rfl | rfl
  · exact ⟨_, h.c 0 rfl, by decide, by decide⟩
  · exact ⟨_, h.c 1 rfl, by decide, by decide⟩
  · exact ⟨_, h.c 2 rfl, by decide, by decide⟩
  · exact ⟨_, h.c 3 rfl, by decide, by decide⟩
  · exact ⟨_, h.c 4 rfl, by decide, by decide⟩
  · exact ⟨_, h.c 5 rfl, by decide, by decide⟩
  · exact ⟨_, h.c 6 rfl, by decide, by decide⟩
theorem word_div {p : Int} (h : Word p) (k : Nat) : Word (p / 2 ^ k) := by
  have h1 : (0 : Int) ≤ 2 ^ k := by rw [ipow2]; exact Int.natCast_nonneg _
  refine ⟨Int.ediv_nonneg h.1 h1, ?_⟩
  have := Int.ediv_le_self (b := 2 ^ k) h.1
  have := h.2
  omega
theorem tell_words {z : Int} {w w' : World} {e : Ending} (h : TellP z w e w') : ∃ a3 a2 a1 a0 b, e = .returned (.tuple #[.agg #[.int .u64 a3, .int .u64 a2, .int .u64 a1, .int .u64 a0], .bool b]) ∧ Word a3 ∧ Word a2 ∧ Word a1 ∧ Word a0 ∧ Below w.heap.size w w' := by
  obtain ⟨hB, ⟨_, a3, a2, a1, a0, rfl, g3, g2, g1, g0, _⟩ | ⟨_, rfl⟩⟩ := h
  · exact ⟨a3, a2, a1, a0, true, rfl, g3, g2, g1, g0, hB⟩
  · exact ⟨0, 0, 0, 0, false, rfl, ⟨by decide, by decide⟩, ⟨by decide, by decide⟩, ⟨by decide, by decide⟩, ⟨by decide, by decide⟩, hB⟩
set_option maxRecDepth 100000 in
set_option maxHeartbeats 4000000 in
theorem wide_any (g : Nat) (ao : Option Addr) (n cap : Nat) (cs : List Int) (w : World) (h : Rdr w g ao n cap cs) :
    Calls Try.prog 23 #[.pointer (some ⟨g, 0, none⟩)] w (RdP g ao n cap cs IsWide w) := by
  have hg := h.lt
  have hne : w.heap.size ≠ g := by omega
  have B := Blk.new w [.int .u64 0, .int .u64 0, .int .u64 0, .int .u64 0] 26 rfl
  have R := h.alloc (.cells #[.int .u64 0, .int .u64 0, .int .u64 0, .int .u64 0] 26)
  have K := (Kept.refl g w).alloc (.cells #[.int .u64 0, .int .u64 0, .int .u64 0, .int .u64 0] 26)
  clear h
  go_enter Try.func23, Try.ntmps23
  go_wp2_with fail
  refine (below_any 9 (by decide) (by decide) g ao n cap cs _ R).mono ?_
  rintro e w1 ⟨_, rfl, ⟨x, rfl, x0, x1⟩, R1, K1⟩
  replace B := B.kept K1 hne
  replace K := K.trans K1
  clear R K1
  have R := R1
  clear R1
  rcases (by omega : x = 0 ∨ x = 1 ∨ x = 2 ∨ x = 3 ∨ x = 4 ∨ x = 5 ∨ (x = 6 ∨ x = 7 ∨ x = 8)) with rfl | rfl | rfl | rfl | rfl | rfl | hx
  · have G := Blk.new w1 [.int .i64 0, .int .i64 1, .int .i64 (-1), .int .i64 2, .int .i64 10, .int .i64 (-9223372036854775808), .int .i64 9223372036854775807] 2 rfl
    have hG : w1.heap.size ≠ g := by have := R.lt; omega
    replace B := B.alloc (.cells #[.int .i64 0, .int .i64 1, .int .i64 (-1), .int .i64 2, .int .i64 10, .int .i64 (-9223372036854775808), .int .i64 9223372036854775807] 2)
    replace R := R.alloc (.cells #[.int .i64 0, .int .i64 1, .int .i64 (-1), .int .i64 2, .int .i64 10, .int .i64 (-9223372036854775808), .int .i64 9223372036854775807] 2)
    replace K := K.alloc (.cells #[.int .i64 0, .int .i64 1, .int .i64 (-1), .int .i64 2, .int .i64 10, .int .i64 (-9223372036854775808), .int .i64 9223372036854775807] 2)
    go_wp2_with fail
    refine (below_any 7 (by decide) (by decide) g ao n cap cs _ R).mono ?_
    rintro e w2 ⟨_, rfl, ⟨y, rfl, y0, y1⟩, R1, K1⟩
    replace B := B.kept K1 hne
    replace G := G.kept K1 hG
    replace K := K.trans K1
    clear R K1
    have R := R1
    clear R1
    obtain ⟨k, rfl⟩ := Int.eq_ofNat_of_zero_le y0
    obtain ⟨v, hv, v0, v1⟩ := pick7 G k (by omega)
    have k7 : (k : Int) < 7 := y1
    go_wp2_with fail
    refine (specOf_any v _ v0 v1).mono ?_
    rintro e w3 ⟨a3, a2, a1, a0, rfl, g3, g2, g1, g0, -, hB⟩
    replace B := B.step hB
    replace K := K.trans (Kept.of hB)
    replace R := R.step hB
    clear hB
    clear hv G
    have z0 := B.c 0 rfl; have y0 := B.f 0 rfl; have z1 := B.c 1 rfl; have y1 := B.f 1 rfl; have z2 := B.c 2 rfl; have y2 := B.f 2 rfl; have z3 := B.c 3 rfl; have y3 := B.f 3 rfl; have zl := B.lt
    go_wp2
    refine bodyPost_ret (v := .agg #[.int .u64 a3, .int .u64 a2, .int .u64 a1, .int .u64 a0]) (by simp [results, Try.results23, go_sem, z0, z1, z2, z3]) rfl ?_
    exact wide_done hg R K g3 g2 g1 g0
  · have G := Blk.new w1 [.int .u64 9223372036854775808, .int .u64 0, .int .u64 0, .int .u64 0, .int .u64 9223372036854775807, .int .u64 18446744073709551615, .int .u64 18446744073709551615, .int .u64 18446744073709551615, .int .u64 9223372036854775808, .int .u64 0, .int .u64 0, .int .u64 1, .int .u64 4611686018427387904, .int .u64 0, .int .u64 0, .int .u64 0, .int .u64 0, .int .u64 1, .int .u64 0, .int .u64 0, .int .u64 0, .int .u64 0, .int .u64 1, .int .u64 0] 26 rfl
    have hG : w1.heap.size ≠ g := by have := R.lt; omega
    replace B := B.alloc (.cells #[.int .u64 9223372036854775808, .int .u64 0, .int .u64 0, .int .u64 0, .int .u64 9223372036854775807, .int .u64 18446744073709551615, .int .u64 18446744073709551615, .int .u64 18446744073709551615, .int .u64 9223372036854775808, .int .u64 0, .int .u64 0, .int .u64 1, .int .u64 4611686018427387904, .int .u64 0, .int .u64 0, .int .u64 0, .int .u64 0, .int .u64 1, .int .u64 0, .int .u64 0, .int .u64 0, .int .u64 0, .int .u64 1, .int .u64 0] 26)
    replace R := R.alloc (.cells #[.int .u64 9223372036854775808, .int .u64 0, .int .u64 0, .int .u64 0, .int .u64 9223372036854775807, .int .u64 18446744073709551615, .int .u64 18446744073709551615, .int .u64 18446744073709551615, .int .u64 9223372036854775808, .int .u64 0, .int .u64 0, .int .u64 1, .int .u64 4611686018427387904, .int .u64 0, .int .u64 0, .int .u64 0, .int .u64 0, .int .u64 1, .int .u64 0, .int .u64 0, .int .u64 0, .int .u64 0, .int .u64 1, .int .u64 0] 26)
    replace K := K.alloc (.cells #[.int .u64 9223372036854775808, .int .u64 0, .int .u64 0, .int .u64 0, .int .u64 9223372036854775807, .int .u64 18446744073709551615, .int .u64 18446744073709551615, .int .u64 18446744073709551615, .int .u64 9223372036854775808, .int .u64 0, .int .u64 0, .int .u64 1, .int .u64 4611686018427387904, .int .u64 0, .int .u64 0, .int .u64 0, .int .u64 0, .int .u64 1, .int .u64 0, .int .u64 0, .int .u64 0, .int .u64 0, .int .u64 1, .int .u64 0] 26)
    go_wp2_with fail
    refine (below_any 6 (by decide) (by decide) g ao n cap cs _ R).mono ?_
    rintro e w2 ⟨_, rfl, ⟨y, rfl, q0, q1⟩, R1, K1⟩
    replace B := B.kept K1 hne
    replace G := G.kept K1 hG
    replace K := K.trans K1
    clear R K1
    have R := R1
    clear R1
    have z0 := B.c 0 rfl; have y0 := B.f 0 rfl; have z1 := B.c 1 rfl; have y1 := B.f 1 rfl; have z2 := B.c 2 rfl; have y2 := B.f 2 rfl; have z3 := B.c 3 rfl; have y3 := B.f 3 rfl; have zl := B.lt
    have gl := G.lt
    rcases (by omega : y = 0 ∨ y = 1 ∨ y = 2 ∨ y = 3 ∨ y = 4 ∨ y = 5) with rfl | rfl | rfl | rfl | rfl | rfl
    · have c0 := G.c 0 rfl; have c1 := G.c 1 rfl; have c2 := G.c 2 rfl; have c3 := G.c 3 rfl
      clear G
      go_wp2
      refine bodyPost_ret (v := .agg #[.int .u64 9223372036854775808, .int .u64 0, .int .u64 0, .int .u64 0]) (by simp [results, Try.results23, go_sem, z0, z1, z2, z3]) rfl ?_
      exact wide_done hg R K ⟨by decide, by decide⟩ ⟨by decide, by decide⟩ ⟨by decide, by decide⟩ ⟨by decide, by decide⟩
    · have c0 := G.c 4 rfl; have c1 := G.c 5 rfl; have c2 := G.c 6 rfl; have c3 := G.c 7 rfl
      clear G
      go_wp2
      refine bodyPost_ret (v := .agg #[.int .u64 9223372036854775807, .int .u64 18446744073709551615, .int .u64 18446744073709551615, .int .u64 18446744073709551615]) (by simp [results, Try.results23, go_sem, z0, z1, z2, z3]) rfl ?_
      exact wide_done hg R K ⟨by decide, by decide⟩ ⟨by decide, by decide⟩ ⟨by decide, by decide⟩ ⟨by decide, by decide⟩
    · have c0 := G.c 8 rfl; have c1 := G.c 9 rfl; have c2 := G.c 10 rfl; have c3 := G.c 11 rfl
      clear G
      go_wp2
      refine bodyPost_ret (v := .agg #[.int .u64 9223372036854775808, .int .u64 0, .int .u64 0, .int .u64 1]) (by simp [results, Try.results23, go_sem, z0, z1, z2, z3]) rfl ?_
      exact wide_done hg R K ⟨by decide, by decide⟩ ⟨by decide, by decide⟩ ⟨by decide, by decide⟩ ⟨by decide, by decide⟩
    · have c0 := G.c 12 rfl; have c1 := G.c 13 rfl; have c2 := G.c 14 rfl; have c3 := G.c 15 rfl
      clear G
      go_wp2
      refine bodyPost_ret (v := .agg #[.int .u64 4611686018427387904, .int .u64 0, .int .u64 0, .int .u64 0]) (by simp [results, Try.results23, go_sem, z0, z1, z2, z3]) rfl ?_
      exact wide_done hg R K ⟨by decide, by decide⟩ ⟨by decide, by decide⟩ ⟨by decide, by decide⟩ ⟨by decide, by decide⟩
    · have c0 := G.c 16 rfl; have c1 := G.c 17 rfl; have c2 := G.c 18 rfl; have c3 := G.c 19 rfl
      clear G
      go_wp2
      refine bodyPost_ret (v := .agg #[.int .u64 0, .int .u64 1, .int .u64 0, .int .u64 0]) (by simp [results, Try.results23, go_sem, z0, z1, z2, z3]) rfl ?_
      exact wide_done hg R K ⟨by decide, by decide⟩ ⟨by decide, by decide⟩ ⟨by decide, by decide⟩ ⟨by decide, by decide⟩
    · have c0 := G.c 20 rfl; have c1 := G.c 21 rfl; have c2 := G.c 22 rfl; have c3 := G.c 23 rfl
      clear G
      go_wp2
      refine bodyPost_ret (v := .agg #[.int .u64 0, .int .u64 0, .int .u64 1, .int .u64 0]) (by simp [results, Try.results23, go_sem, z0, z1, z2, z3]) rfl ?_
      exact wide_done hg R K ⟨by decide, by decide⟩ ⟨by decide, by decide⟩ ⟨by decide, by decide⟩ ⟨by decide, by decide⟩
  · go_wp2_with fail
    refine (once_any 2 (by decide) (by decide) g ao n cap cs _ R).mono ?_
    rintro e w2 ⟨_, rfl, ⟨b, rfl⟩, R1, K1⟩
    replace B := B.kept K1 hne
    replace K := K.trans K1
    clear R K1
    have R := R1
    clear R1
    have L := Rd.lit w2 (cs := #[.int .u32 1]) (e := 76) (zs := [1]) rfl rfl (by simp [maxLen])
    replace B := B.alloc (.cells #[.int .u32 1] 76)
    replace R := R.alloc (.cells #[.int .u32 1] 76)
    replace K := K.alloc (.cells #[.int .u32 1] 76)
    go_wp2_with fail
    refine (below_any 255 (by decide) (by decide) g ao n cap cs _ R).mono ?_
    rintro e w3 ⟨_, rfl, ⟨y, rfl, y0, y1⟩, R1, K1⟩
    replace B := B.kept K1 hne
    replace L := L.kept R K1
    replace K := K.trans K1
    clear R K1
    have R := R1
    clear R1
    obtain ⟨k, rfl⟩ := Int.eq_ofNat_of_zero_le y0
    go_wp2_with fail
    refine (left_any _ 1 1 k [1] _ rfl (dig_cons.2 ⟨by omega, dig_nil⟩) L (by omega) (by omega)).mono ?_
    rintro e w4 ⟨o1, n1, c1, zs1, rfl, k1, k2, k3, k4, k5, k6, hB⟩
    replace B := B.step hB
    replace K := K.trans (Kept.of hB)
    replace R := R.step hB
    clear hB L
    go_wp2_with fail
    refine (trim_any b o1 n1 c1 zs1 _ k1 k2 k4.1 k6 (by omega)).mono ?_
    rintro e w5 ⟨s2, o2, n2, c2, d2, rfl, l1, l2, l3, l4, l5, l6, l7, hB⟩
    have hv0 := val_nonneg k4.1
    have N : IsNum w5 s2 o2 n2 c2 d2 (if b then -val zs1 else val zs1) 1000 := num_of l1 l2 (by omega) l4 l5 l6 l7 (by cases b <;> simp <;> omega) (by intro hz; cases b <;> simp at hz ⊢ <;> omega)
    replace B := B.step hB
    replace K := K.trans (Kept.of hB)
    replace R := R.step hB
    clear hB k1 k2 k3 k4 k5 k6 l1 l2 l3 l4 l5 l6 l7 hv0
    go_wp2_with fail
    refine (toW_any s2 o2 n2 c2 d2 _ 1000 _ N (by omega)).mono ?_
    intro e w7 hT
    obtain ⟨a3, a2, a1, a0, b', rfl, g3, g2, g1, g0, hB⟩ := tell_words hT
    replace B := B.step hB
    replace K := K.trans (Kept.of hB)
    replace R := R.step hB
    clear hB hT N
    have z0 := B.c 0 rfl; have y0 := B.f 0 rfl; have z1 := B.c 1 rfl; have y1 := B.f 1 rfl; have z2 := B.c 2 rfl; have y2 := B.f 2 rfl; have z3 := B.c 3 rfl; have y3 := B.f 3 rfl; have zl := B.lt
    go_wp2
    refine bodyPost_ret (v := .agg #[.int .u64 a3, .int .u64 a2, .int .u64 a1, .int .u64 a0]) (by simp [results, Try.results23, go_sem, World.cell?_alloc_past, z0, z1, z2, z3, zl]) rfl ?_
    exact wide_done2 hg R K g3 g2 g1 g0
  · go_wp2_with fail
    refine (word_any g ao n cap cs _ R).mono ?_
    rintro e w2 ⟨_, rfl, ⟨a3, rfl, g3⟩, R1, K1⟩
    replace B := B.kept K1 hne
    replace K := K.trans K1
    clear R K1
    have R := R1
    clear R1
    go_wp2_with fail
    refine (word_any g ao n cap cs _ R).mono ?_
    rintro e w3 ⟨_, rfl, ⟨a2, rfl, g2⟩, R1, K1⟩
    replace B := B.kept K1 hne
    replace K := K.trans K1
    clear R K1
    have R := R1
    clear R1
    go_wp2_with fail
    refine (word_any g ao n cap cs _ R).mono ?_
    rintro e w4 ⟨_, rfl, ⟨a1, rfl, g1⟩, R1, K1⟩
    replace B := B.kept K1 hne
    replace K := K.trans K1
    clear R K1
    have R := R1
    clear R1
    go_wp2_with fail
    refine (word_any g ao n cap cs _ R).mono ?_
    rintro e w5 ⟨_, rfl, ⟨a0, rfl, g0⟩, R1, K1⟩
    replace B := B.kept K1 hne
    replace K := K.trans K1
    clear R K1
    have R := R1
    clear R1
    have z0 := B.c 0 rfl; have y0 := B.f 0 rfl; have z1 := B.c 1 rfl; have y1 := B.f 1 rfl; have z2 := B.c 2 rfl; have y2 := B.f 2 rfl; have z3 := B.c 3 rfl; have y3 := B.f 3 rfl; have zl := B.lt
    go_wp2
    refine bodyPost_ret (v := .agg #[.int .u64 a3, .int .u64 a2, .int .u64 a1, .int .u64 a0]) (by simp [results, Try.results23, go_sem, z0, z1, z2, z3]) rfl ?_
    exact wide_done hg R K g3 g2 g1 g0
  · go_wp2_with fail
    refine (word_any g ao n cap cs _ R).mono ?_
    rintro e w2 ⟨_, rfl, ⟨p, rfl, p0, p1⟩, R1, K1⟩
    replace B := B.kept K1 hne
    replace K := K.trans K1
    clear R K1
    have R := R1
    clear R1
    go_wp2_with fail
    refine (below_any 64 (by decide) (by decide) g ao n cap cs _ R).mono ?_
    rintro e w3 ⟨_, rfl, ⟨y, rfl, y0, y1⟩, R1, K1⟩
    replace B := B.kept K1 hne
    replace K := K.trans K1
    clear R K1
    have R := R1
    clear R1
    obtain ⟨k, rfl⟩ := Int.eq_ofNat_of_zero_le y0
    have hk : IntKind.u64.wrap (k : Int) = (k : Int) := by rw [IntKind.wrap_u64]; omega
    go_wp2_with fail
    refine (word_any g ao n cap cs _ R).mono ?_
    rintro e w4 ⟨_, rfl, ⟨a0, rfl, g0⟩, R1, K1⟩
    replace B := B.kept K1 hne
    replace K := K.trans K1
    clear R K1
    have R := R1
    clear R1
    have z0 := B.c 0 rfl; have y0 := B.f 0 rfl; have z1 := B.c 1 rfl; have y1 := B.f 1 rfl; have z2 := B.c 2 rfl; have y2 := B.f 2 rfl; have z3 := B.c 3 rfl; have y3 := B.f 3 rfl; have zl := B.lt
    go_wp2
    refine bodyPost_ret (v := .agg #[.int .u64 0, .int .u64 0, .int .u64 (p / 2 ^ k), .int .u64 a0]) (by simp [results, Try.results23, go_sem, z0, z1, z2, z3]) rfl ?_
    exact wide_done hg R K ⟨by decide, by decide⟩ ⟨by decide, by decide⟩ (word_div ⟨p0, p1⟩ k) g0
  · go_wp2_with fail
    refine (word_any g ao n cap cs _ R).mono ?_
    rintro e w2 ⟨_, rfl, ⟨p, rfl, p0, p1⟩, R1, K1⟩
    replace B := B.kept K1 hne
    replace K := K.trans K1
    clear R K1
    have R := R1
    clear R1
    go_wp2_with fail
    refine (int_any (wrap64 p) _ (by unfold wrap64; omega) (by unfold wrap64; omega)).mono ?_
    rintro e w3 ⟨s1, o1, n1, c1, d1, rfl, N1, hB⟩
    replace B := B.step hB
    replace K := K.trans (Kept.of hB)
    replace R := R.step hB
    clear hB
    go_wp2_with fail
    refine (word_any g ao n cap cs _ R).mono ?_
    rintro e w4 ⟨_, rfl, ⟨q, rfl, q0, q1⟩, R1, K1⟩
    replace B := B.kept K1 hne
    replace N1 := N1.kept R K1
    replace K := K.trans K1
    clear R K1
    have R := R1
    clear R1
    go_wp2_with fail
    refine (int_any (wrap64 q) _ (by unfold wrap64; omega) (by unfold wrap64; omega)).mono ?_
    rintro e w5 ⟨s2, o2, n2, c2, d2, rfl, N2, hB⟩
    replace B := B.step hB
    replace N1 := N1.below hB
    replace K := K.trans (Kept.of hB)
    replace R := R.step hB
    clear hB
    go_wp2_with fail
    refine (mul_any s1 s2 o1 o2 n1 n2 c1 c2 2 d1 d2 _ _ _ N1 N2 (by omega)).mono ?_
    rintro e w6 ⟨s3, o3, n3, c3, d3, rfl, N3, hB⟩
    replace B := B.step hB
    replace K := K.trans (Kept.of hB)
    replace R := R.step hB
    clear hB
    go_wp2_with fail
    refine (toW_any s3 o3 n3 c3 d3 _ (2 + 2) _ N3 (by omega)).mono ?_
    intro e w7 hT
    obtain ⟨a3, a2, a1, a0, b, rfl, g3, g2, g1, g0, hB⟩ := tell_words hT
    replace B := B.step hB
    replace K := K.trans (Kept.of hB)
    replace R := R.step hB
    clear hB hT N1 N2 N3
    have z0 := B.c 0 rfl; have y0 := B.f 0 rfl; have z1 := B.c 1 rfl; have y1 := B.f 1 rfl; have z2 := B.c 2 rfl; have y2 := B.f 2 rfl; have z3 := B.c 3 rfl; have y3 := B.f 3 rfl; have zl := B.lt
    go_wp2
    refine bodyPost_ret (v := .agg #[.int .u64 a3, .int .u64 a2, .int .u64 a1, .int .u64 a0]) (by simp [results, Try.results23, go_sem, World.cell?_alloc_past, z0, z1, z2, z3, zl]) rfl ?_
    exact wide_done2 hg R K g3 g2 g1 g0
  · have e0 : (x == 0) = false := by rw [beq_eq_false_iff_ne]; omega
    have e1 : (x == 1) = false := by rw [beq_eq_false_iff_ne]; omega
    have e2 : (x == 2) = false := by rw [beq_eq_false_iff_ne]; omega
    have e3 : (x == 3) = false := by rw [beq_eq_false_iff_ne]; omega
    have e4 : (x == 4) = false := by rw [beq_eq_false_iff_ne]; omega
    have e5 : (x == 5) = false := by rw [beq_eq_false_iff_ne]; omega
    clear hx
    go_wp2_with fail
    refine (near_any g ao n cap cs _ R).mono ?_
    rintro e w2 ⟨_, rfl, ⟨y, rfl, y0, y1⟩, R1, K1⟩
    replace B := B.kept K1 hne
    replace K := K.trans K1
    clear R K1
    have R := R1
    clear R1
    go_wp2_with fail
    refine (specOf_any y _ (by omega) (by omega)).mono ?_
    rintro e w3 ⟨a3, a2, a1, a0, rfl, g3, g2, g1, g0, -, hB⟩
    replace B := B.step hB
    replace K := K.trans (Kept.of hB)
    replace R := R.step hB
    clear hB
    have z0 := B.c 0 rfl; have y0 := B.f 0 rfl; have z1 := B.c 1 rfl; have y1 := B.f 1 rfl; have z2 := B.c 2 rfl; have y2 := B.f 2 rfl; have z3 := B.c 3 rfl; have y3 := B.f 3 rfl; have zl := B.lt
    go_wp2
    refine bodyPost_ret (v := .agg #[.int .u64 a3, .int .u64 a2, .int .u64 a1, .int .u64 a0]) (by simp [results, Try.results23, go_sem, z0, z1, z2, z3]) rfl ?_
    exact wide_done hg R K g3 g2 g1 g0
end Go.Proofs.Ytllfpnnngdphfaa

/- Two numbers drawn from a code: the walks. -/
namespace Go.Proofs.Ytllfpnnngdphfaa
open Go.RowKit
/-- The code as it lies: so many bytes. -/
structure Code (w : World) (ao : Option Addr) (n : Nat) (cs : List Int) : Prop where
  bytes : ∀ i, (h : i < cs.length) → ∃ b off, ao = some ⟨b, off, none⟩ ∧ b < w.heap.size ∧ w.cell? ⟨b, off + i, none⟩ = some (.int .u8 cs[i])
  len : cs.length = n
  small : n ≤ 1048576
  byte : ∀ c ∈ cs, 0 ≤ c ∧ c < 256
theorem Code.below {w w' : World} {ao : Option Addr} {n : Nat} {cs : List Int} (h : Code w ao n cs) (hB : Below w.heap.size w w') : Code w' ao n cs := by
  refine ⟨fun i hi => ?_, h.len, h.small, h.byte⟩
  obtain ⟨b, off, e, hb, hc⟩ := h.bytes i hi
  exact ⟨b, off, e, Nat.lt_of_lt_of_le hb hB.size, (hB.cell (p := ⟨b, off + i, none⟩) hb).trans hc⟩
def OpenP (ao : Option Addr) (n cap : Nat) (cs : List Int) (w : World) (e : Ending) (w' : World) : Prop := ∃ G, e = .returned (.pointer (some ⟨G, 0, none⟩)) ∧ w.heap.size ≤ G ∧ Rdr w' G ao n cap cs ∧ Below w.heap.size w w'
theorem open_any (ao : Option Addr) (n cap : Nat) (cs : List Int) (w : World) (h : Code w ao n cs) :
    Calls Try.prog 22 #[.slice ao n cap] w (OpenP ao n cap cs w) := by
  go_enter Try.func22, Try.ntmps22
  go_wp2
  go_ret
  refine ⟨w.heap.size, rfl, Nat.le_refl _, ⟨⟨0, Nat.zero_le _, Blk.new w [.slice ao n cap, .int .i64 0] 71 rfl⟩, fun i hi => ?_, h.len, h.small, h.byte⟩, (Below.refl _ _).alloc (Nat.le_refl _) _⟩
  obtain ⟨b, off, e, hb, hc⟩ := h.bytes i hi
  exact ⟨b, off, e, hb, cell_alloc hb hc⟩
/-- Two numbers of four words. -/
def TwoP (w : World) (e : Ending) (w' : World) : Prop := ∃ a3 a2 a1 a0 b3 b2 b1 b0 : Int, e = .returned (.tuple #[.agg #[.int .u64 a3, .int .u64 a2, .int .u64 a1, .int .u64 a0], .agg #[.int .u64 b3, .int .u64 b2, .int .u64 b1, .int .u64 b0]]) ∧ (Word a3 ∧ Word a2 ∧ Word a1 ∧ Word a0) ∧ (Word b3 ∧ Word b2 ∧ Word b1 ∧ Word b0) ∧ Below w.heap.size w w'
theorem two_done {w W : World} {v0 v1 v2 v3 u0 u1 u2 u3 : Value} (hB : Below w.heap.size w W) : Below w.heap.size w ((((((((W.setCell ⟨w.heap.size, 0, none⟩ v0).setCell ⟨w.heap.size, 1, none⟩ v1).setCell ⟨w.heap.size, 2, none⟩ v2).setCell ⟨w.heap.size, 3, none⟩ v3).setCell ⟨w.heap.size + 1, 0, none⟩ u0).setCell ⟨w.heap.size + 1, 1, none⟩ u1).setCell ⟨w.heap.size + 1, 2, none⟩ u2).setCell ⟨w.heap.size + 1, 3, none⟩ u3) :=
  ((((((((hB.setCell (p := ⟨w.heap.size, 0, none⟩) (Nat.le_refl _) _).setCell (p := ⟨w.heap.size, 1, none⟩) (Nat.le_refl _) _).setCell (p := ⟨w.heap.size, 2, none⟩) (Nat.le_refl _) _).setCell (p := ⟨w.heap.size, 3, none⟩) (Nat.le_refl _) _).setCell (p := ⟨w.heap.size + 1, 0, none⟩) (Nat.le_succ _) _).setCell (p := ⟨w.heap.size + 1, 1, none⟩) (Nat.le_succ _) _).setCell (p := ⟨w.heap.size + 1, 2, none⟩) (Nat.le_succ _) _).setCell (p := ⟨w.heap.size + 1, 3, none⟩) (Nat.le_succ _) _)
set_option maxRecDepth 100000 in
set_option maxHeartbeats 2000000 in
theorem drawMul_any (ao : Option Addr) (n cap : Nat) (cs : List Int) (w : World) (h : Code w ao n cs) :
    Calls Try.prog 7 #[.slice ao n cap] w (TwoP w) := by
  have A := (Blk.new w [.int .u64 0, .int .u64 0, .int .u64 0, .int .u64 0] 26 rfl).alloc (.cells #[.int .u64 0, .int .u64 0, .int .u64 0, .int .u64 0] 26)
  have B := Blk.new (w.alloc (.cells #[.int .u64 0, .int .u64 0, .int .u64 0, .int .u64 0] 26)) [.int .u64 0, .int .u64 0, .int .u64 0, .int .u64 0] 26 (g := w.heap.size + 1) (by simp)
  have HB : Below w.heap.size w ((w.alloc (.cells #[.int .u64 0, .int .u64 0, .int .u64 0, .int .u64 0] 26)).alloc (.cells #[.int .u64 0, .int .u64 0, .int .u64 0, .int .u64 0] 26)) := ((Below.refl _ _).alloc (Nat.le_refl _) _).alloc (by simp) _
  replace h := h.below HB
  go_enter Try.func7, Try.ntmps7
  go_wp2_with fail
  refine (open_any ao n cap cs _ h).mono ?_
  rintro e w1 ⟨G, rfl, hG, R, hB⟩
  simp at hG
  have hA : w.heap.size ≠ G := by omega
  have hA' : w.heap.size + 1 ≠ G := by omega
  replace A := A.step hB
  replace B := B.step hB
  replace HB : Below w.heap.size w w1 := HB.trans (hB.mono HB.size)
  have K := Kept.refl G w1
  have hl := HB.size
  clear h hB
  go_wp2_with fail
  refine (wide_any G ao n cap cs _ R).mono ?_
  rintro e w2 ⟨_, rfl, ⟨a3, a2, a1, a0, rfl, g⟩, R1, K1⟩
  replace A := A.kept K1 hA
  replace B := B.kept K1 hA'
  replace K := K.trans K1
  clear R K1
  have R := R1
  clear R1
  go_wp2_with fail
  refine (wide_any G ao n cap cs _ R).mono ?_
  rintro e w3 ⟨_, rfl, ⟨b3, b2, b1, b0, rfl, f⟩, R1, K1⟩
  replace A := A.kept K1 hA
  replace B := B.kept K1 hA'
  replace K := K.trans K1
  clear R K1
  have R := R1
  clear R1
  replace HB : Below w.heap.size w w3 := HB.trans (K.below (by omega) hl)
  have pc0 := A.c 0 rfl; have pf0 := A.f 0 rfl; have pc1 := A.c 1 rfl; have pf1 := A.f 1 rfl; have pc2 := A.c 2 rfl; have pf2 := A.f 2 rfl; have pc3 := A.c 3 rfl; have pf3 := A.f 3 rfl; have pl := A.lt; have qc0 := B.c 0 rfl; have qf0 := B.f 0 rfl; have qc1 := B.c 1 rfl; have qf1 := B.f 1 rfl; have qc2 := B.c 2 rfl; have qf2 := B.f 2 rfl; have qc3 := B.c 3 rfl; have qf3 := B.f 3 rfl; have ql := B.lt
  clear A B
  go_wp2
  refine bodyPost_ret (v := .tuple #[.agg #[.int .u64 a3, .int .u64 a2, .int .u64 a1, .int .u64 a0], .agg #[.int .u64 b3, .int .u64 b2, .int .u64 b1, .int .u64 b0]]) (by simp [results, Try.results7, go_sem, pc0, qc0, pc1, qc1, pc2, qc2, pc3, qc3]) rfl ?_
  exact ⟨a3, a2, a1, a0, b3, b2, b1, b0, rfl, g, f, two_done HB⟩
end Go.Proofs.Ytllfpnnngdphfaa

/- Four words in a block of memory, and what is kept of them. -/
namespace Go.Proofs.Ytllfpnnngdphfaa
open Go.RowKit
/-- Four words lie in the block g. -/
structure Wd (W : World) (g : Nat) (a3 a2 a1 a0 : Int) : Prop where
  c0 : W.cell? ⟨g, 0, none⟩ = some (.int .u64 a3)
  c1 : W.cell? ⟨g, 1, none⟩ = some (.int .u64 a2)
  c2 : W.cell? ⟨g, 2, none⟩ = some (.int .u64 a1)
  c3 : W.cell? ⟨g, 3, none⟩ = some (.int .u64 a0)
  f0 : W.frozen? ⟨g, 0, none⟩ = false
  f1 : W.frozen? ⟨g, 1, none⟩ = false
  f2 : W.frozen? ⟨g, 2, none⟩ = false
  f3 : W.frozen? ⟨g, 3, none⟩ = false
  lt : g < W.heap.size
theorem Wd.step {W W' : World} {g : Nat} {a3 a2 a1 a0 : Int} (h : Wd W g a3 a2 a1 a0) (hb : Below W.heap.size W W') : Wd W' g a3 a2 a1 a0 := by
  have hc := fun o => hb.cell (p := ⟨g, o, none⟩) h.lt
  have hf := fun o => hb.frozen (p := ⟨g, o, none⟩) h.lt
  exact ⟨(hc _).trans h.c0, (hc _).trans h.c1, (hc _).trans h.c2, (hc _).trans h.c3, (hf _).trans h.f0, (hf _).trans h.f1, (hf _).trans h.f2, (hf _).trans h.f3, Nat.lt_of_lt_of_le h.lt hb.size⟩
theorem Wd.drew {W : World} {g : Nat} {a3 a2 a1 a0 : Int} (h : Wd W g a3 a2 a1 a0) : Wd W.drew g a3 a2 a1 a0 := ⟨h.c0, h.c1, h.c2, h.c3, h.f0, h.f1, h.f2, h.f3, h.lt⟩
theorem Wd.alloc {W : World} {g : Nat} {a3 a2 a1 a0 : Int} (h : Wd W g a3 a2 a1 a0) (o : Obj) : Wd (W.alloc o) g a3 a2 a1 a0 := h.step ((Below.refl _ _).alloc (Nat.le_refl _) o)
theorem Wd.new (W : World) (a3 a2 a1 a0 : Int) (T : TypeId) {g : Nat} (hg : g = W.heap.size) : Wd (W.alloc (Obj.cells #[Value.int IntKind.u64 a3, Value.int IntKind.u64 a2, Value.int IntKind.u64 a1, Value.int IntKind.u64 a0] T)) g a3 a2 a1 a0 := by
  subst hg
  exact ⟨by simp [go_sem], by simp [go_sem], by simp [go_sem], by simp [go_sem], by simp [go_sem], by simp [go_sem], by simp [go_sem], by simp [go_sem], by simp⟩
theorem Wd.set {W : World} {g R : Nat} {a3 a2 a1 a0 : Int} (h : Wd W g a3 a2 a1 a0) (hne : g ≠ R) (u0 u1 u2 u3 : Value) : Wd ((((W.setCell ⟨R, 0, none⟩ u0).setCell ⟨R, 1, none⟩ u1).setCell ⟨R, 2, none⟩ u2).setCell ⟨R, 3, none⟩ u3) g a3 a2 a1 a0 := by
  have hn : ∀ o j, (⟨R, j, none⟩ : Addr) ≠ ⟨g, o, none⟩ := by intro o j e; simp only [Addr.mk.injEq] at e; exact hne e.1.symm
  have hc : ∀ o, ((((W.setCell ⟨R, 0, none⟩ u0).setCell ⟨R, 1, none⟩ u1).setCell ⟨R, 2, none⟩ u2).setCell ⟨R, 3, none⟩ u3).cell? ⟨g, o, none⟩ = W.cell? ⟨g, o, none⟩ := fun o => by
    rw [World.cell?_setCell_other _ _ _ _ (hn o 3), World.cell?_setCell_other _ _ _ _ (hn o 2), World.cell?_setCell_other _ _ _ _ (hn o 1), World.cell?_setCell_other _ _ _ _ (hn o 0)]
  have hf : ∀ o, ((((W.setCell ⟨R, 0, none⟩ u0).setCell ⟨R, 1, none⟩ u1).setCell ⟨R, 2, none⟩ u2).setCell ⟨R, 3, none⟩ u3).frozen? ⟨g, o, none⟩ = W.frozen? ⟨g, o, none⟩ := fun o => by simp [go_sem]
  exact ⟨(hc _).trans h.c0, (hc _).trans h.c1, (hc _).trans h.c2, (hc _).trans h.c3, (hf _).trans h.f0, (hf _).trans h.f1, (hf _).trans h.f2, (hf _).trans h.f3, by simpa [World.setCell] using h.lt⟩
/-- Two boxed numbers of four words, as a call that takes two finds them. -/
structure TwoW (w W : World) (a3 a2 a1 a0 b3 b2 b1 b0 : Int) : Prop where
  a : Wd W w.heap.size a3 a2 a1 a0
  b : Wd W (w.heap.size + 1) b3 b2 b1 b0
  below : Below w.heap.size w W
theorem TwoW.step {w W W' : World} {a3 a2 a1 a0 b3 b2 b1 b0 : Int} (h : TwoW w W a3 a2 a1 a0 b3 b2 b1 b0) (hb : Below W.heap.size W W') : TwoW w W' a3 a2 a1 a0 b3 b2 b1 b0 := ⟨h.a.step hb, h.b.step hb, h.below.trans (hb.mono h.below.size)⟩
theorem TwoW.drew {w W : World} {a3 a2 a1 a0 b3 b2 b1 b0 : Int} (h : TwoW w W a3 a2 a1 a0 b3 b2 b1 b0) : TwoW w W.drew a3 a2 a1 a0 b3 b2 b1 b0 := ⟨h.a.drew, h.b.drew, h.below.drew⟩
theorem TwoW.alloc {w W : World} {a3 a2 a1 a0 b3 b2 b1 b0 : Int} (h : TwoW w W a3 a2 a1 a0 b3 b2 b1 b0) (o : Obj) : TwoW w (W.alloc o) a3 a2 a1 a0 b3 b2 b1 b0 := h.step ((Below.refl _ _).alloc (Nat.le_refl _) o)
theorem TwoW.set {w W : World} {R : Nat} {a3 a2 a1 a0 b3 b2 b1 b0 : Int} (h : TwoW w W a3 a2 a1 a0 b3 b2 b1 b0) (hR : w.heap.size + 1 < R) (u0 u1 u2 u3 : Value) : TwoW w ((((W.setCell ⟨R, 0, none⟩ u0).setCell ⟨R, 1, none⟩ u1).setCell ⟨R, 2, none⟩ u2).setCell ⟨R, 3, none⟩ u3) a3 a2 a1 a0 b3 b2 b1 b0 :=
  ⟨h.a.set (by omega) _ _ _ _, h.b.set (by omega) _ _ _ _, tell_below h.below (by omega)⟩
/-- What a region that reads both holds on to. -/
def Cells8 (w W : World) (a3 a2 a1 a0 b3 b2 b1 b0 : Int) : Prop :=
  W.cell? ⟨w.heap.size, 0, none⟩ = some (.int .u64 a3) ∧ W.cell? ⟨w.heap.size, 1, none⟩ = some (.int .u64 a2) ∧ W.cell? ⟨w.heap.size, 2, none⟩ = some (.int .u64 a1) ∧ W.cell? ⟨w.heap.size, 3, none⟩ = some (.int .u64 a0) ∧
  W.cell? ⟨w.heap.size + 1, 0, none⟩ = some (.int .u64 b3) ∧ W.cell? ⟨w.heap.size + 1, 1, none⟩ = some (.int .u64 b2) ∧ W.cell? ⟨w.heap.size + 1, 2, none⟩ = some (.int .u64 b1) ∧ W.cell? ⟨w.heap.size + 1, 3, none⟩ = some (.int .u64 b0)
theorem TwoW.cells {w W : World} {a3 a2 a1 a0 b3 b2 b1 b0 : Int} (h : TwoW w W a3 a2 a1 a0 b3 b2 b1 b0) : Cells8 w W a3 a2 a1 a0 b3 b2 b1 b0 := ⟨h.a.c0, h.a.c1, h.a.c2, h.a.c3, h.b.c0, h.b.c1, h.b.c2, h.b.c3⟩
theorem twoW_start (w : World) (a3 a2 a1 a0 b3 b2 b1 b0 : Int) (T : TypeId) : TwoW w ((w.alloc (Obj.cells #[Value.int IntKind.u64 a3, Value.int IntKind.u64 a2, Value.int IntKind.u64 a1, Value.int IntKind.u64 a0] T)).alloc (Obj.cells #[Value.int IntKind.u64 b3, Value.int IntKind.u64 b2, Value.int IntKind.u64 b1, Value.int IntKind.u64 b0] T)) a3 a2 a1 a0 b3 b2 b1 b0 :=
  ⟨(Wd.new w _ _ _ _ T rfl).alloc _, Wd.new _ _ _ _ _ T (by simp), ((Below.refl _ _).alloc (Nat.le_refl _) _).alloc (by simp) _⟩
theorem tellP_set {z : Int} {w W : World} {R : Nat} {e : Ending} {u0 u1 u2 u3 : Value} (hR : w.heap.size ≤ R) (h : TellP z w e W) : TellP z w e ((((W.setCell ⟨R, 0, none⟩ u0).setCell ⟨R, 1, none⟩ u1).setCell ⟨R, 2, none⟩ u2).setCell ⟨R, 3, none⟩ u3) := ⟨tell_below h.1 hR, h.2⟩
theorem tellP_drew {z : Int} {w W : World} {e : Ending} (h : TellP z w e W) : TellP z w e W.drew := ⟨h.1.drew, h.2⟩
theorem tellP_from {z : Int} {w W W' : World} {e : Ending} (hB : Below w.heap.size w W) (h : TellP z W e W') : TellP z w e W' := ⟨hB.trans (h.1.mono hB.size), h.2⟩
/-- A tell's value: four words and a flag. -/
theorem tellP_shape {z : Int} {w W : World} {e : Ending} (h : TellP z w e W) : ∃ a3 a2 a1 a0 b, e = .returned (.tuple #[.agg #[.int .u64 a3, .int .u64 a2, .int .u64 a1, .int .u64 a0], .bool b]) := by
  rcases h.2 with ⟨_, a3, a2, a1, a0, e, _⟩ | ⟨_, e⟩
  · exact ⟨a3, a2, a1, a0, true, e⟩
  · exact ⟨0, 0, 0, 0, false, e⟩
/-- Two tells of one number are one. -/
theorem tellP_same {z : Int} {w W w' W' : World} {a3 a2 a1 a0 b3 b2 b1 b0 : Int} {p q : Bool} (h : TellP z w (.returned (.tuple #[.agg #[.int .u64 a3, .int .u64 a2, .int .u64 a1, .int .u64 a0], .bool p])) W) (h' : TellP z w' (.returned (.tuple #[.agg #[.int .u64 b3, .int .u64 b2, .int .u64 b1, .int .u64 b0], .bool q])) W') :
    a3 = b3 ∧ a2 = b2 ∧ a1 = b1 ∧ a0 = b0 ∧ p = q := by
  rcases h.2 with ⟨t, x3, x2, x1, x0, e, h3, h2, h1, h0, hs⟩ | ⟨t, e⟩
  · rcases h'.2 with ⟨t', y3, y2, y1, y0, e', g3, g2, g1, g0, hs'⟩ | ⟨t', _⟩
    · simp at e e'
      obtain ⟨⟨rfl, rfl, rfl, rfl⟩, rfl⟩ := e
      obtain ⟨⟨rfl, rfl, rfl, rfl⟩, rfl⟩ := e'
      obtain ⟨r3, r2, r1, r0⟩ := sw_inj h3 h2 h1 h0 g3 g2 g1 g0 (hs.trans hs'.symm)
      exact ⟨r3, r2, r1, r0, rfl⟩
    · rw [t] at t'; cases t'
  · rcases h'.2 with ⟨t', _⟩ | ⟨t', e'⟩
    · rw [t] at t'; cases t'
    · simp at e e'
      obtain ⟨⟨rfl, rfl, rfl, rfl⟩, rfl⟩ := e
      obtain ⟨⟨rfl, rfl, rfl, rfl⟩, rfl⟩ := e'
      exact ⟨rfl, rfl, rfl, rfl, rfl⟩
end Go.Proofs.Ytllfpnnngdphfaa

/- Rows of words in memory, and the two sums with a carry: the words that the walks share. -/
namespace Go.Proofs.Ytllfpnnngdphfaa
open Go.RowKit
theorem add64 (x y c : Int) (hx : Word x) (hy : Word y) (hc0 : 0 ≤ c) (hc : c ≤ 1) (w : World) : (callFunc 72 #[.int .u64 x, .int .u64 y, .int .u64 c]).run Try.prog w =
    .ok (.value (.tuple #[.int .u64 ((x + y + c) % 18446744073709551616), .int .u64 ((x + y + c) / 18446744073709551616)])) w := by
  obtain ⟨hx0, hx1⟩ := hx
  obtain ⟨hy0, hy1⟩ := hy
  obtain ⟨x, rfl⟩ := Int.eq_ofNat_of_zero_le hx0
  obtain ⟨y, rfl⟩ := Int.eq_ofNat_of_zero_le hy0
  obtain ⟨c, rfl⟩ := Int.eq_ofNat_of_zero_le hc0
  rw [run_callFunc_extern Try.func72 (by kernel_rfl) (by kernel_rfl) (by kernel_rfl) (e := add64Entry) (by kernel_rfl), run_add64 x y c (by omega) (by omega) (by omega) (by omega)]
  simp only [Result.andThen]
theorem sub64 (x y b : Int) (hx : Word x) (hy : Word y) (hb0 : 0 ≤ b) (hb : b ≤ 1) (w : World) : (callFunc 74 #[.int .u64 x, .int .u64 y, .int .u64 b]).run Try.prog w =
    .ok (.value (.tuple #[.int .u64 ((x - y - b) % 18446744073709551616), .int .u64 (if x < y + b then 1 else 0)])) w := by
  obtain ⟨hx0, hx1⟩ := hx
  obtain ⟨hy0, hy1⟩ := hy
  obtain ⟨x, rfl⟩ := Int.eq_ofNat_of_zero_le hx0
  obtain ⟨y, rfl⟩ := Int.eq_ofNat_of_zero_le hy0
  obtain ⟨b, rfl⟩ := Int.eq_ofNat_of_zero_le hb0
  have e1 : (((x + 18446744073709551616 - y - b) % 18446744073709551616 : Nat) : Int) = ((x : Int) - y - b) % 18446744073709551616 := by omega
  have e2 : ((if x < y + b then 1 else 0 : Nat) : Int) = if (x : Int) < y + b then 1 else 0 := by split <;> split <;> omega
  rw [← e1, ← e2]
  rw [run_callFunc_extern Try.func74 (by kernel_rfl) (by kernel_rfl) (by kernel_rfl) (e := sub64Entry) (by kernel_rfl), run_sub64 x y b (by omega)]
  rfl
/-- The number that words stand for, the lowest first. -/
def val64 : List Int → Int
  | [] => 0
  | d :: t => d + 18446744073709551616 * val64 t
def Words (ds : List Int) : Prop := ∀ d ∈ ds, Word d
def pw64 : Nat → Int
  | 0 => 1
  | n + 1 => 18446744073709551616 * pw64 n
theorem val64_snoc (a : List Int) (d : Int) : val64 (a ++ [d]) = val64 a + pw64 a.length * d := by
  induction a with
  | nil => simp [val64, pw64]
  | cons x t ih => simp only [List.cons_append, val64, List.length_cons, pw64, ih]; grind
theorem words_append {a b : List Int} : Words (a ++ b) ↔ Words a ∧ Words b := by
  constructor
  · intro h; exact ⟨fun x hx => h x (by simp [hx]), fun x hx => h x (by simp [hx])⟩
  · rintro ⟨h1, h2⟩ x hx
    rcases List.mem_append.1 hx with hx | hx
    · exact h1 x hx
    · exact h2 x hx
theorem words_at {a : List Int} (h : Words a) (n : Nat) (hn : n < a.length) : Word a[n] := h _ (List.getElem_mem hn)
theorem val64_take (a : List Int) (k : Nat) (h : k < a.length) : val64 (a.take (k + 1)) = val64 (a.take k) + pw64 k * a[k] := by
  rw [List.take_succ_eq_append_getElem h, val64_snoc]
  simp [Nat.min_eq_left (Nat.le_of_lt h)]
/-- Words that lie in a row of memory and may be written. -/
structure Row (w : World) (A off : Nat) (xs : List Int) : Prop where
  cell : ∀ i, (h : i < xs.length) → w.cell? ⟨A, off + i, none⟩ = some (.int .u64 xs[i])
  frz : ∀ i, i < xs.length → w.frozen? ⟨A, off + i, none⟩ = false
  lt : A < w.heap.size
/-- Behind it no other cell has turned than n cells of one block. -/
structure Wrote (A off n : Nat) (w w' : World) : Prop where
  os : w'.os = w.os
  tape : w'.tape = w.tape
  output : w'.output = w.output
  size : w'.heap.size = w.heap.size
  block : ∀ k, k ≠ A → w'.heap[k]? = w.heap[k]?
  cell : ∀ j, (j < off ∨ off + n ≤ j) → w'.cell? ⟨A, j, none⟩ = w.cell? ⟨A, j, none⟩
  frz : ∀ j, w'.frozen? ⟨A, j, none⟩ = w.frozen? ⟨A, j, none⟩
theorem Wrote.refl (A off n : Nat) (w : World) : Wrote A off n w w := ⟨rfl, rfl, rfl, rfl, fun _ _ => rfl, fun _ _ => rfl, fun _ => rfl⟩
theorem Wrote.drew {A off n : Nat} {w w' : World} (h : Wrote A off n w w') : Wrote A off n w w'.drew := ⟨h.os, h.tape, h.output, h.size, h.block, h.cell, h.frz⟩
theorem Wrote.set {A off n : Nat} {w w' : World} (h : Wrote A off n w w') (j : Nat) (hj : off ≤ j ∧ j < off + n) (u : Value) : Wrote A off n w (w'.setCell ⟨A, j, none⟩ u) := by
  refine ⟨h.os, h.tape, h.output, by simpa [World.setCell] using h.size, fun k hk => ?_, fun i hi => ?_, fun i => ?_⟩
  · rw [Below.heap_setCell _ _ _ _ hk]; exact h.block k hk
  · rw [World.cell?_setCell_other _ _ _ _ (by intro e; simp only [Addr.mk.injEq] at e; omega)]; exact h.cell i hi
  · rw [← h.frz i]; simp [go_sem]
theorem Wrote.cellOther {A off n : Nat} {w w' : World} (h : Wrote A off n w w') {b : Nat} (hb : b ≠ A) (o : Nat) : w'.cell? ⟨b, o, none⟩ = w.cell? ⟨b, o, none⟩ := World.cell?_of_block (w := w) (h.block b hb)
theorem Wrote.frzOther {A off n : Nat} {w w' : World} (h : Wrote A off n w w') {b : Nat} (hb : b ≠ A) (o : Nat) : w'.frozen? ⟨b, o, none⟩ = w.frozen? ⟨b, o, none⟩ := World.frozen?_of_block (w := w) (h.block b hb)
theorem Wrote.below {A off n : Nat} {w w' : World} (h : Wrote A off n w w') {B : Nat} (hB : B ≤ A) : Below B w w' := ⟨h.os, h.tape, h.output, by rw [h.size]; exact Nat.le_refl _, fun k hk => h.block k (by omega)⟩
end Go.Proofs.Ytllfpnnngdphfaa

/- The walk of the sum of two rows of words. -/
namespace Go.Proofs.Ytllfpnnngdphfaa
open Go.RowKit
structure AwI (w wr : World) (A oa n : Nat) (xs ys : List Int) (k : Nat) (c : Int) (zs : List Int) : Prop where
  len : zs.length = k
  wds : Words zs
  eq : val64 zs + c * pw64 k = val64 (xs.take k) + val64 (ys.take k)
  row : Row wr A oa (zs ++ xs.drop k)
  wrote : Wrote A oa n w wr
def AddWP (A oa n : Nat) (xs ys : List Int) (w : World) (e : Ending) (w' : World) : Prop :=
  ∃ (zs : List Int) (c : Int), e = .returned (.tuple #[]) ∧ zs.length = n ∧ Words zs ∧ 0 ≤ c ∧ c ≤ 1 ∧ val64 zs + c * pw64 n = val64 xs + val64 ys ∧ Row w' A oa zs ∧ Wrote A oa n w w'
theorem aw_cell {w wr : World} {A oa n : Nat} {xs ys : List Int} {k : Nat} {c : Int} {zs : List Int} (h : AwI w wr A oa n xs ys k c zs) (hk : k < xs.length) : wr.cell? ⟨A, oa + k, none⟩ = some (.int .u64 xs[k]) ∧ wr.frozen? ⟨A, oa + k, none⟩ = false := by
  have hl : k < (zs ++ xs.drop k).length := by simp [h.len]; omega
  refine ⟨?_, h.row.frz k hl⟩
  rw [h.row.cell k hl]
  have : (zs ++ xs.drop k)[k] = xs[k] := by have := h.len; rw [List.getElem_append_right (by omega)]; simp [h.len]
  rw [this]
theorem row_set {w : World} {A off : Nat} {zs t : List Int} {x : Int} (h : Row w A off (zs ++ x :: t)) (u : Int) : Row (w.setCell ⟨A, off + zs.length, none⟩ (.int .u64 u)) A off ((zs ++ [u]) ++ t) := by
  have hc := h.cell zs.length (by simp)
  refine ⟨fun i hi => ?_, fun i hi => ?_, by simpa [World.setCell] using h.lt⟩
  · by_cases he : i = zs.length
    · subst he
      rw [World.cell?_setCell_same _ _ _ hc]
      simp
    · rw [World.cell?_setCell_other _ _ _ _ (by intro e; simp only [Addr.mk.injEq] at e; omega), h.cell i (by simp at hi ⊢; omega)]
      congr 2
      simp only [List.append_assoc, List.cons_append, List.nil_append]
      rcases Nat.lt_or_ge i zs.length with h1 | h1
      · rw [List.getElem_append_left h1, List.getElem_append_left h1]
      · rw [List.getElem_append_right h1, List.getElem_append_right h1]
        obtain ⟨j, hj⟩ : ∃ j, i - zs.length = j + 1 := ⟨i - zs.length - 1, by omega⟩
        simp [hj]
  · have := h.frz i (by simp at hi ⊢; omega)
    rw [← this]; simp [go_sem]
theorem row_drew {w : World} {A off : Nat} {xs : List Int} (h : Row w A off xs) : Row w.drew A off xs := ⟨h.cell, h.frz, h.lt⟩
theorem aw_step {w wr : World} {A oa n : Nat} {xs ys : List Int} {k : Nat} {c : Int} {zs : List Int} (h : AwI w wr A oa n xs ys k c zs) (hk : k < xs.length) (hk' : k < ys.length) (hn : k < n) (u c' : Int) (hu : u = (xs[k] + ys[k] + c) % 18446744073709551616) (hc : c' = (xs[k] + ys[k] + c) / 18446744073709551616) :
    AwI w (wr.setCell ⟨A, oa + k, none⟩ (.int .u64 u)) A oa n xs ys (k + 1) c' (zs ++ [u]) := by
  refine ⟨by simp [h.len], words_append.2 ⟨h.wds, ?_⟩, ?_, ?_, h.wrote.set _ ⟨by omega, by omega⟩ _⟩
  · intro d hd; simp only [List.mem_singleton] at hd; subst hd; rw [hu]; exact ⟨by omega, by omega⟩
  · rw [val64_snoc, h.len, val64_take xs k hk, val64_take ys k hk', pw64]
    have e := h.eq
    have e1 : u + 18446744073709551616 * c' = xs[k] + ys[k] + c := by omega
    have e2 : pw64 k * u + c' * (18446744073709551616 * pw64 k) = pw64 k * (xs[k] + ys[k] + c) := by rw [← e1]; grind
    have e3 : pw64 k * (xs[k] + ys[k] + c) = pw64 k * xs[k] + pw64 k * ys[k] + c * pw64 k := by grind
    omega
  · have hr := h.row
    rw [List.drop_eq_getElem_cons hk] at hr
    have := row_set hr u
    rw [h.len] at this
    exact this
theorem aw_drew {w wr : World} {A oa n : Nat} {xs ys : List Int} {k : Nat} {c : Int} {zs : List Int} (h : AwI w wr A oa n xs ys k c zs) : AwI w wr.drew A oa n xs ys k c zs := ⟨h.len, h.wds, h.eq, row_drew h.row, h.wrote.drew⟩
theorem aw_done {w wr : World} {A oa n : Nat} {xs ys : List Int} {c : Int} {zs : List Int} (h : AwI w wr A oa n xs ys n c zs) (hx : xs.length = n) (hy : ys.length = n) (hc0 : 0 ≤ c) (hc1 : c ≤ 1) : AddWP A oa n xs ys w (.returned (.tuple #[])) wr := by
  refine ⟨zs, c, rfl, h.len, h.wds, hc0, hc1, ?_, ?_, h.wrote⟩
  · have := h.eq
    rwa [List.take_of_length_le (by omega), List.take_of_length_le (by omega)] at this
  · have := h.row
    rwa [List.drop_of_length_le (by omega), List.append_nil] at this
set_option maxRecDepth 100000 in
set_option maxHeartbeats 2000000 in
theorem addWords_any (A B oa ob n ca cc cb : Nat) (xs ys : List Int) (w : World) (hx : xs.length = n) (hy : ys.length = n) (wx : Words xs) (wy : Words ys) (rx : Row w A oa xs) (ry : Row w B ob ys) (hAB : B ≠ A) (hn : n ≤ 1000) :
    Calls Try.prog 56 #[.slice (some ⟨A, oa, none⟩) n ca, .slice (some ⟨A, oa, none⟩) n cc, .slice (some ⟨B, ob, none⟩) n cb] w (AddWP A oa n xs ys w) := by
  have HX : Hid (xs.length = n) := hx
  have HY : Hid (ys.length = n) := hy
  have HS : AwI w w A oa n xs ys 0 0 [] := ⟨rfl, by intro d hd; simp at hd, by simp [val64], by simpa using rx, Wrote.refl _ _ _ _⟩
  have HRY : Hid (Row w B ob ys) := ry
  have HWX : Hid (Words xs) := wx
  have HWY : Hid (Words ys) := wy
  clear hx hy wx wy rx ry
  go_enter Try.func56, Try.ntmps56
  go_wp2
  go_loopw [6, 10] (fun cr i wr => ∃ (k : Nat) (c : Int) (zs : List Int), k ≤ n ∧ i = .int .i64 k ∧ 0 ≤ c ∧ c ≤ 1 ∧ cr = .int .u64 c ∧ AwI w wr A oa n xs ys k c zs) (fun _ i _ => n - (intOf i).toNat)
  case atStart => exact ⟨0, 0, [], Nat.zero_le _, rfl, by decide, by decide, rfl, HS⟩
  case round =>
    obtain ⟨k, c, zs, hk, rfl, hc0, hc1, rfl, hI⟩ := hrel
    clear HS
    by_cases hkn : k < n
    · have hkx : k < xs.length := by have := HX.out; omega
      have hky : k < ys.length := by have := HY.out; omega
      obtain ⟨hcx, hfx⟩ := aw_cell hI hkx
      have hcy := (hI.wrote.cellOther hAB (ob + k)).trans (HRY.out.cell k hky)
      have vx := words_at HWX.out k hkx
      have vy := words_at HWY.out k hky
      obtain ⟨u, hu⟩ : ∃ u, u = (xs[k] + ys[k] + c) % 18446744073709551616 := ⟨_, rfl⟩
      obtain ⟨c', hc'⟩ : ∃ c', c' = (xs[k] + ys[k] + c) / 18446744073709551616 := ⟨_, rfl⟩
      have hadd := fun wx => add64 xs[k] ys[k] c vx vy hc0 hc1 wx
      rw [← hu, ← hc'] at hadd
      have R := aw_step hI hkx hky hkn u c' hu hc'
      have hb0 : 0 ≤ c' := by have := vx.1; have := vy.1; omega
      have hb1 : c' ≤ 1 := by have := vx.2; have := vy.2; omega
      clear hI vx vy hu hc'
      have hkn' : (k : Int) < n := by omega
      go_wp2
      go_region
      go_wp2
      go_roundw
      case rel => exact ⟨k + 1, c', _, by omega, by go_num, hb0, hb1, rfl, by first | exact R | exact aw_drew R⟩
      case measure => simp [intOf]; omega
    · obtain rfl : k = n := by omega
      have R := aw_done hI HX.out HY.out hc0 hc1
      clear hI
      go_wp2
      go_end0
      exact R
end Go.Proofs.Ytllfpnnngdphfaa

/- The walk of the difference of two rows of words. -/
namespace Go.Proofs.Ytllfpnnngdphfaa
open Go.RowKit
structure TwI (w wr : World) (A oa n : Nat) (xs ys : List Int) (k : Nat) (c : Int) (zs : List Int) : Prop where
  len : zs.length = k
  wds : Words zs
  eq : val64 zs = val64 (xs.take k) - val64 (ys.take k) + c * pw64 k
  row : Row wr A oa (zs ++ xs.drop k)
  wrote : Wrote A oa n w wr
def TakeWP (A oa n : Nat) (xs ys : List Int) (w : World) (e : Ending) (w' : World) : Prop :=
  ∃ (zs : List Int) (c : Int), e = .returned (.tuple #[]) ∧ zs.length = n ∧ Words zs ∧ 0 ≤ c ∧ c ≤ 1 ∧ val64 zs = val64 xs - val64 ys + c * pw64 n ∧ Row w' A oa zs ∧ Wrote A oa n w w'
theorem tw_cell {w wr : World} {A oa n : Nat} {xs ys : List Int} {k : Nat} {c : Int} {zs : List Int} (h : TwI w wr A oa n xs ys k c zs) (hk : k < xs.length) : wr.cell? ⟨A, oa + k, none⟩ = some (.int .u64 xs[k]) ∧ wr.frozen? ⟨A, oa + k, none⟩ = false := by
  have hl : k < (zs ++ xs.drop k).length := by simp [h.len]; omega
  refine ⟨?_, h.row.frz k hl⟩
  rw [h.row.cell k hl]
  have : (zs ++ xs.drop k)[k] = xs[k] := by have := h.len; rw [List.getElem_append_right (by omega)]; simp [h.len]
  rw [this]
theorem tw_step {w wr : World} {A oa n : Nat} {xs ys : List Int} {k : Nat} {c : Int} {zs : List Int} (h : TwI w wr A oa n xs ys k c zs) (hk : k < xs.length) (hk' : k < ys.length) (hn : k < n) (u c' : Int) (hu0 : Word u) (hu : u = xs[k] - ys[k] - c + c' * 18446744073709551616) :
    TwI w (wr.setCell ⟨A, oa + k, none⟩ (.int .u64 u)) A oa n xs ys (k + 1) c' (zs ++ [u]) := by
  refine ⟨by simp [h.len], words_append.2 ⟨h.wds, ?_⟩, ?_, ?_, h.wrote.set _ ⟨by omega, by omega⟩ _⟩
  · intro d hd; simp only [List.mem_singleton] at hd; subst hd; exact hu0
  · rw [val64_snoc, h.len, val64_take xs k hk, val64_take ys k hk', pw64, h.eq, hu]
    grind
  · have hr := h.row
    rw [List.drop_eq_getElem_cons hk] at hr
    have := row_set hr u
    rw [h.len] at this
    exact this
theorem tw_drew {w wr : World} {A oa n : Nat} {xs ys : List Int} {k : Nat} {c : Int} {zs : List Int} (h : TwI w wr A oa n xs ys k c zs) : TwI w wr.drew A oa n xs ys k c zs := ⟨h.len, h.wds, h.eq, row_drew h.row, h.wrote.drew⟩
theorem tw_done {w wr : World} {A oa n : Nat} {xs ys : List Int} {c : Int} {zs : List Int} (h : TwI w wr A oa n xs ys n c zs) (hx : xs.length = n) (hy : ys.length = n) (hc0 : 0 ≤ c) (hc1 : c ≤ 1) : TakeWP A oa n xs ys w (.returned (.tuple #[])) wr := by
  refine ⟨zs, c, rfl, h.len, h.wds, hc0, hc1, ?_, ?_, h.wrote⟩
  · have := h.eq
    rwa [List.take_of_length_le (by omega), List.take_of_length_le (by omega)] at this
  · have := h.row
    rwa [List.drop_of_length_le (by omega), List.append_nil] at this
theorem borrow (x y b : Int) (hx : Word x) (hy : Word y) (hb0 : 0 ≤ b) (hb1 : b ≤ 1) (u b' : Int) (hu : u = (x - y - b) % 18446744073709551616) (hb' : b' = if x < y + b then 1 else 0) : Word u ∧ u = x - y - b + b' * 18446744073709551616 ∧ 0 ≤ b' ∧ b' ≤ 1 := by
  unfold Word at *
  split at hb' <;> omega
set_option maxRecDepth 100000 in
set_option maxHeartbeats 2000000 in
theorem takeWords_any (A B oa ob n ca cc cb : Nat) (xs ys : List Int) (w : World) (hx : xs.length = n) (hy : ys.length = n) (wx : Words xs) (wy : Words ys) (rx : Row w A oa xs) (ry : Row w B ob ys) (hAB : B ≠ A) (hn : n ≤ 1000) :
    Calls Try.prog 62 #[.slice (some ⟨A, oa, none⟩) n ca, .slice (some ⟨A, oa, none⟩) n cc, .slice (some ⟨B, ob, none⟩) n cb] w (TakeWP A oa n xs ys w) := by
  have HX : Hid (xs.length = n) := hx
  have HY : Hid (ys.length = n) := hy
  have HS : TwI w w A oa n xs ys 0 0 [] := ⟨rfl, by intro d hd; simp at hd, by simp [val64], by simpa using rx, Wrote.refl _ _ _ _⟩
  have HRY : Hid (Row w B ob ys) := ry
  have HWX : Hid (Words xs) := wx
  have HWY : Hid (Words ys) := wy
  clear hx hy wx wy rx ry
  go_enter Try.func62, Try.ntmps62
  go_wp2
  go_loopw [6, 10] (fun cr i wr => ∃ (k : Nat) (c : Int) (zs : List Int), k ≤ n ∧ i = .int .i64 k ∧ 0 ≤ c ∧ c ≤ 1 ∧ cr = .int .u64 c ∧ TwI w wr A oa n xs ys k c zs) (fun _ i _ => n - (intOf i).toNat)
  case atStart => exact ⟨0, 0, [], Nat.zero_le _, rfl, by decide, by decide, rfl, HS⟩
  case round =>
    obtain ⟨k, c, zs, hk, rfl, hc0, hc1, rfl, hI⟩ := hrel
    clear HS
    by_cases hkn : k < n
    · have hkx : k < xs.length := by have := HX.out; omega
      have hky : k < ys.length := by have := HY.out; omega
      obtain ⟨hcx, hfx⟩ := tw_cell hI hkx
      have hcy := (hI.wrote.cellOther hAB (ob + k)).trans (HRY.out.cell k hky)
      have vx := words_at HWX.out k hkx
      have vy := words_at HWY.out k hky
      obtain ⟨u, hu⟩ : ∃ u, u = (xs[k] - ys[k] - c) % 18446744073709551616 := ⟨_, rfl⟩
      obtain ⟨c', hc'⟩ : ∃ c' : Int, c' = if xs[k] < ys[k] + c then 1 else 0 := ⟨_, rfl⟩
      have hadd := fun wx => sub64 xs[k] ys[k] c vx vy hc0 hc1 wx
      rw [← hu, ← hc'] at hadd
      obtain ⟨hw, hq, hb0, hb1⟩ := borrow _ _ _ vx vy hc0 hc1 u c' hu hc'
      have R := tw_step hI hkx hky hkn u c' hw hq
      clear hI vx vy hu hc' hw hq
      have hkn' : (k : Int) < n := by omega
      go_wp2
      go_region
      go_wp2
      go_roundw
      case rel => exact ⟨k + 1, c', _, by omega, by go_num, hb0, hb1, rfl, by first | exact R | exact tw_drew R⟩
      case measure => simp [intOf]; omega
    · obtain rfl : k = n := by omega
      have R := tw_done hI HX.out HY.out hc0 hc1
      clear hI
      go_wp2
      go_end0
      exact R
end Go.Proofs.Ytllfpnnngdphfaa

/- The walks of plus and minus of 4 words. -/
namespace Go.Proofs.Ytllfpnnngdphfaa
open Go.RowKit
/-- The sum of two rows of words, cut off. -/
def PlusP (xs ys : List Int) (w : World) (e : Ending) (w' : World) : Prop :=
  ∃ (zs : List Int) (c : Int), e = .returned (.agg (zs.map (Value.int .u64)).toArray) ∧ zs.length = xs.length ∧ Words zs ∧ 0 ≤ c ∧ c ≤ 1 ∧ val64 zs + c * pw64 xs.length = val64 xs + val64 ys ∧ Below w.heap.size w w'
/-- The difference of two rows of words, cut off. -/
def MinusP (xs ys : List Int) (w : World) (e : Ending) (w' : World) : Prop :=
  ∃ (zs : List Int) (c : Int), e = .returned (.agg (zs.map (Value.int .u64)).toArray) ∧ zs.length = xs.length ∧ Words zs ∧ 0 ≤ c ∧ c ≤ 1 ∧ val64 zs = val64 xs - val64 ys + c * pw64 xs.length ∧ Below w.heap.size w w'
theorem Row.drewd {w : World} {A off : Nat} {xs : List Int} (h : Row w A off xs) : Row w.drew A off xs := row_drew h
theorem row_other {w w' : World} {A B oa ob n : Nat} {xs : List Int} (h : Row w B ob xs) (hw : Wrote A oa n w w') (hne : B ≠ A) : Row w' B ob xs :=
  ⟨fun i hi => (hw.cellOther hne _).trans (h.cell i hi), fun i hi => (hw.frzOther hne _).trans (h.frz i hi), by rw [hw.size]; exact h.lt⟩
theorem list4 {l : List Int} (h : l.length = 4) : ∃ z0 z1 z2 z3, l = [z0, z1, z2, z3] := by
  match l, h with
  | [z0, z1, z2, z3], _ => exact ⟨z0, z1, z2, z3, rfl⟩
theorem row_of4 {w : World} {A : Nat} {x0 x1 x2 x3 : Int} (hl : A < w.heap.size) (h0 : w.cell? ⟨A, 0, none⟩ = some (.int .u64 x0)) (h1 : w.cell? ⟨A, 1, none⟩ = some (.int .u64 x1)) (h2 : w.cell? ⟨A, 2, none⟩ = some (.int .u64 x2)) (h3 : w.cell? ⟨A, 3, none⟩ = some (.int .u64 x3)) (f0 : w.frozen? ⟨A, 0, none⟩ = false) (f1 : w.frozen? ⟨A, 1, none⟩ = false) (f2 : w.frozen? ⟨A, 2, none⟩ = false) (f3 : w.frozen? ⟨A, 3, none⟩ = false) : Row w A 0 [x0, x1, x2, x3] := by
  refine ⟨fun i hi => ?_, fun i hi => ?_, hl⟩
  · simp only [Nat.zero_add]
    match i, hi with
    | 0, _ => exact h0
    | 1, _ => exact h1
    | 2, _ => exact h2
    | 3, _ => exact h3
  · simp only [Nat.zero_add]
    match i, hi with
    | 0, _ => exact f0
    | 1, _ => exact f1
    | 2, _ => exact f2
    | 3, _ => exact f3
theorem row_cells4 {w : World} {A : Nat} {x0 x1 x2 x3 : Int} (h : Row w A 0 [x0, x1, x2, x3]) : w.cell? ⟨A, 0, none⟩ = some (.int .u64 x0) ∧ w.cell? ⟨A, 1, none⟩ = some (.int .u64 x1) ∧ w.cell? ⟨A, 2, none⟩ = some (.int .u64 x2) ∧ w.cell? ⟨A, 3, none⟩ = some (.int .u64 x3) :=
  ⟨by simpa using h.cell 0 (by simp), by simpa using h.cell 1 (by simp), by simpa using h.cell 2 (by simp), by simpa using h.cell 3 (by simp)⟩
theorem row_frz4 {w : World} {A : Nat} {x0 x1 x2 x3 : Int} (h : Row w A 0 [x0, x1, x2, x3]) : w.frozen? ⟨A, 0, none⟩ = false ∧ w.frozen? ⟨A, 1, none⟩ = false ∧ w.frozen? ⟨A, 2, none⟩ = false ∧ w.frozen? ⟨A, 3, none⟩ = false :=
  ⟨by simpa using h.frz 0 (by simp), by simpa using h.frz 1 (by simp), by simpa using h.frz 2 (by simp), by simpa using h.frz 3 (by simp)⟩
theorem plus4_ret {w w1 : World} {xs ys : List Int} {e : Ending} {u0 u1 u2 u3 : Value} (h : PlusP xs ys w e w1) : PlusP xs ys w e ((((w1.setCell ⟨w.heap.size + 1 + 1, 0, none⟩ u0).setCell ⟨w.heap.size + 1 + 1, 1, none⟩ u1).setCell ⟨w.heap.size + 1 + 1, 2, none⟩ u2).setCell ⟨w.heap.size + 1 + 1, 3, none⟩ u3) := by
  obtain ⟨zs, c, h1, h2, h3, h4, h5, h6, h7⟩ := h
  exact ⟨zs, c, h1, h2, h3, h4, h5, h6, ((((h7.setCell (by show w.heap.size ≤ w.heap.size + 1 + 1; omega) _).setCell (by show w.heap.size ≤ w.heap.size + 1 + 1; omega) _).setCell (by show w.heap.size ≤ w.heap.size + 1 + 1; omega) _).setCell (by show w.heap.size ≤ w.heap.size + 1 + 1; omega) _)⟩
set_option maxRecDepth 100000 in
set_option maxHeartbeats 2000000 in
theorem plus4 (x0 x1 x2 x3 y0 y1 y2 y3 : Int) (wx : Words [x0, x1, x2, x3]) (wy : Words [y0, y1, y2, y3]) (w : World) :
    Calls Try.prog 26 #[.agg #[.int .u64 x0, .int .u64 x1, .int .u64 x2, .int .u64 x3], .agg #[.int .u64 y0, .int .u64 y1, .int .u64 y2, .int .u64 y3]] w (PlusP [x0, x1, x2, x3] [y0, y1, y2, y3] w) := by
  have rx : Row (((w.alloc (Obj.cells #[Value.int IntKind.u64 x0, Value.int IntKind.u64 x1, Value.int IntKind.u64 x2, Value.int IntKind.u64 x3] 41)).alloc (Obj.cells #[Value.int IntKind.u64 y0, Value.int IntKind.u64 y1, Value.int IntKind.u64 y2, Value.int IntKind.u64 y3] 41)).alloc (Obj.cells #[Value.int IntKind.u64 0, Value.int IntKind.u64 0, Value.int IntKind.u64 0, Value.int IntKind.u64 0] 41)) w.heap.size 0 [x0, x1, x2, x3] := row_of4 (by simp <;> omega) (by simp [go_sem]) (by simp [go_sem]) (by simp [go_sem]) (by simp [go_sem]) (by simp [go_sem]) (by simp [go_sem]) (by simp [go_sem]) (by simp [go_sem])
  have ry : Row (((w.alloc (Obj.cells #[Value.int IntKind.u64 x0, Value.int IntKind.u64 x1, Value.int IntKind.u64 x2, Value.int IntKind.u64 x3] 41)).alloc (Obj.cells #[Value.int IntKind.u64 y0, Value.int IntKind.u64 y1, Value.int IntKind.u64 y2, Value.int IntKind.u64 y3] 41)).alloc (Obj.cells #[Value.int IntKind.u64 0, Value.int IntKind.u64 0, Value.int IntKind.u64 0, Value.int IntKind.u64 0] 41)) (w.heap.size + 1) 0 [y0, y1, y2, y3] := row_of4 (by simp <;> omega) (by simp [go_sem]) (by simp [go_sem]) (by simp [go_sem]) (by simp [go_sem]) (by simp [go_sem]) (by simp [go_sem]) (by simp [go_sem]) (by simp [go_sem])
  have rr : Row (((w.alloc (Obj.cells #[Value.int IntKind.u64 x0, Value.int IntKind.u64 x1, Value.int IntKind.u64 x2, Value.int IntKind.u64 x3] 41)).alloc (Obj.cells #[Value.int IntKind.u64 y0, Value.int IntKind.u64 y1, Value.int IntKind.u64 y2, Value.int IntKind.u64 y3] 41)).alloc (Obj.cells #[Value.int IntKind.u64 0, Value.int IntKind.u64 0, Value.int IntKind.u64 0, Value.int IntKind.u64 0] 41)) (w.heap.size + 1 + 1) 0 [0, 0, 0, 0] := row_of4 (by simp <;> omega) (by simp [go_sem]) (by simp [go_sem]) (by simp [go_sem]) (by simp [go_sem]) (by simp [go_sem]) (by simp [go_sem]) (by simp [go_sem]) (by simp [go_sem])
  have hB : Below w.heap.size w (((w.alloc (Obj.cells #[Value.int IntKind.u64 x0, Value.int IntKind.u64 x1, Value.int IntKind.u64 x2, Value.int IntKind.u64 x3] 41)).alloc (Obj.cells #[Value.int IntKind.u64 y0, Value.int IntKind.u64 y1, Value.int IntKind.u64 y2, Value.int IntKind.u64 y3] 41)).alloc (Obj.cells #[Value.int IntKind.u64 0, Value.int IntKind.u64 0, Value.int IntKind.u64 0, Value.int IntKind.u64 0] 41)) := (((Below.refl _ _).alloc (Nat.le_refl _) _).alloc (by simp) _).alloc (by simp; omega) _
  go_enter Try.func26, Try.ntmps26
  go_wp2
  generalize ((w.alloc (Obj.cells #[Value.int IntKind.u64 x0, Value.int IntKind.u64 x1, Value.int IntKind.u64 x2, Value.int IntKind.u64 x3] 41)).alloc (Obj.cells #[Value.int IntKind.u64 y0, Value.int IntKind.u64 y1, Value.int IntKind.u64 y2, Value.int IntKind.u64 y3] 41)).alloc (Obj.cells #[Value.int IntKind.u64 0, Value.int IntKind.u64 0, Value.int IntKind.u64 0, Value.int IntKind.u64 0] 41) = W at *
  go_region_with ((go_at_call 56; refine (addWords_any w.heap.size (w.heap.size + 1) 0 0 4 4 4 4 [x0, x1, x2, x3] [y0, y1, y2, y3] _ rfl rfl wx wy (row_drew rx) (row_drew ry) (by omega) (by omega)).mono ?_; rintro e w1 ⟨zs, c, rfl, h1, h2, h3, h4, h5, h6, h7⟩))
  obtain ⟨z0, z1, z2, z3, rfl⟩ := list4 h1
  have HP : Hid (PlusP [x0, x1, x2, x3] [y0, y1, y2, y3] w (.returned (.agg #[.int .u64 z0, .int .u64 z1, .int .u64 z2, .int .u64 z3])) w1) := ⟨[z0, z1, z2, z3], c, rfl, rfl, h2, h3, h4, h5, (hB.drew).trans (h7.below (Nat.le_refl _))⟩
  obtain ⟨c0, c1, c2, c3⟩ := row_cells4 h6
  have rr1 := row_other rr.drewd h7 (by omega)
  obtain ⟨g0, g1, g2, g3⟩ := row_cells4 rr1
  obtain ⟨f0, f1, f2, f3⟩ := row_frz4 rr1
  have hne : w.heap.size + 1 + 1 ≠ w.heap.size := by omega
  clear rx ry rr hB h2 h3 h4 h5 h6 h7 h1 rr1
  go_wp2
  refine bodyPost_ret (v := .agg #[.int .u64 z0, .int .u64 z1, .int .u64 z2, .int .u64 z3]) (by simp [results, Try.results26, go_sem, g0, g1, g2, g3]) rfl ?_
  exact plus4_ret HP.out
theorem minus4_ret {w w1 : World} {xs ys : List Int} {e : Ending} {u0 u1 u2 u3 : Value} (h : MinusP xs ys w e w1) : MinusP xs ys w e ((((w1.setCell ⟨w.heap.size + 1 + 1, 0, none⟩ u0).setCell ⟨w.heap.size + 1 + 1, 1, none⟩ u1).setCell ⟨w.heap.size + 1 + 1, 2, none⟩ u2).setCell ⟨w.heap.size + 1 + 1, 3, none⟩ u3) := by
  obtain ⟨zs, c, h1, h2, h3, h4, h5, h6, h7⟩ := h
  exact ⟨zs, c, h1, h2, h3, h4, h5, h6, ((((h7.setCell (by show w.heap.size ≤ w.heap.size + 1 + 1; omega) _).setCell (by show w.heap.size ≤ w.heap.size + 1 + 1; omega) _).setCell (by show w.heap.size ≤ w.heap.size + 1 + 1; omega) _).setCell (by show w.heap.size ≤ w.heap.size + 1 + 1; omega) _)⟩
set_option maxRecDepth 100000 in
set_option maxHeartbeats 2000000 in
theorem minus4 (x0 x1 x2 x3 y0 y1 y2 y3 : Int) (wx : Words [x0, x1, x2, x3]) (wy : Words [y0, y1, y2, y3]) (w : World) :
    Calls Try.prog 33 #[.agg #[.int .u64 x0, .int .u64 x1, .int .u64 x2, .int .u64 x3], .agg #[.int .u64 y0, .int .u64 y1, .int .u64 y2, .int .u64 y3]] w (MinusP [x0, x1, x2, x3] [y0, y1, y2, y3] w) := by
  have rx : Row (((w.alloc (Obj.cells #[Value.int IntKind.u64 x0, Value.int IntKind.u64 x1, Value.int IntKind.u64 x2, Value.int IntKind.u64 x3] 41)).alloc (Obj.cells #[Value.int IntKind.u64 y0, Value.int IntKind.u64 y1, Value.int IntKind.u64 y2, Value.int IntKind.u64 y3] 41)).alloc (Obj.cells #[Value.int IntKind.u64 0, Value.int IntKind.u64 0, Value.int IntKind.u64 0, Value.int IntKind.u64 0] 41)) w.heap.size 0 [x0, x1, x2, x3] := row_of4 (by simp <;> omega) (by simp [go_sem]) (by simp [go_sem]) (by simp [go_sem]) (by simp [go_sem]) (by simp [go_sem]) (by simp [go_sem]) (by simp [go_sem]) (by simp [go_sem])
  have ry : Row (((w.alloc (Obj.cells #[Value.int IntKind.u64 x0, Value.int IntKind.u64 x1, Value.int IntKind.u64 x2, Value.int IntKind.u64 x3] 41)).alloc (Obj.cells #[Value.int IntKind.u64 y0, Value.int IntKind.u64 y1, Value.int IntKind.u64 y2, Value.int IntKind.u64 y3] 41)).alloc (Obj.cells #[Value.int IntKind.u64 0, Value.int IntKind.u64 0, Value.int IntKind.u64 0, Value.int IntKind.u64 0] 41)) (w.heap.size + 1) 0 [y0, y1, y2, y3] := row_of4 (by simp <;> omega) (by simp [go_sem]) (by simp [go_sem]) (by simp [go_sem]) (by simp [go_sem]) (by simp [go_sem]) (by simp [go_sem]) (by simp [go_sem]) (by simp [go_sem])
  have rr : Row (((w.alloc (Obj.cells #[Value.int IntKind.u64 x0, Value.int IntKind.u64 x1, Value.int IntKind.u64 x2, Value.int IntKind.u64 x3] 41)).alloc (Obj.cells #[Value.int IntKind.u64 y0, Value.int IntKind.u64 y1, Value.int IntKind.u64 y2, Value.int IntKind.u64 y3] 41)).alloc (Obj.cells #[Value.int IntKind.u64 0, Value.int IntKind.u64 0, Value.int IntKind.u64 0, Value.int IntKind.u64 0] 41)) (w.heap.size + 1 + 1) 0 [0, 0, 0, 0] := row_of4 (by simp <;> omega) (by simp [go_sem]) (by simp [go_sem]) (by simp [go_sem]) (by simp [go_sem]) (by simp [go_sem]) (by simp [go_sem]) (by simp [go_sem]) (by simp [go_sem])
  have hB : Below w.heap.size w (((w.alloc (Obj.cells #[Value.int IntKind.u64 x0, Value.int IntKind.u64 x1, Value.int IntKind.u64 x2, Value.int IntKind.u64 x3] 41)).alloc (Obj.cells #[Value.int IntKind.u64 y0, Value.int IntKind.u64 y1, Value.int IntKind.u64 y2, Value.int IntKind.u64 y3] 41)).alloc (Obj.cells #[Value.int IntKind.u64 0, Value.int IntKind.u64 0, Value.int IntKind.u64 0, Value.int IntKind.u64 0] 41)) := (((Below.refl _ _).alloc (Nat.le_refl _) _).alloc (by simp) _).alloc (by simp; omega) _
  go_enter Try.func33, Try.ntmps33
  go_wp2
  generalize ((w.alloc (Obj.cells #[Value.int IntKind.u64 x0, Value.int IntKind.u64 x1, Value.int IntKind.u64 x2, Value.int IntKind.u64 x3] 41)).alloc (Obj.cells #[Value.int IntKind.u64 y0, Value.int IntKind.u64 y1, Value.int IntKind.u64 y2, Value.int IntKind.u64 y3] 41)).alloc (Obj.cells #[Value.int IntKind.u64 0, Value.int IntKind.u64 0, Value.int IntKind.u64 0, Value.int IntKind.u64 0] 41) = W at *
  go_region_with ((go_at_call 62; refine (takeWords_any w.heap.size (w.heap.size + 1) 0 0 4 4 4 4 [x0, x1, x2, x3] [y0, y1, y2, y3] _ rfl rfl wx wy (row_drew rx) (row_drew ry) (by omega) (by omega)).mono ?_; rintro e w1 ⟨zs, c, rfl, h1, h2, h3, h4, h5, h6, h7⟩))
  obtain ⟨z0, z1, z2, z3, rfl⟩ := list4 h1
  have HP : Hid (MinusP [x0, x1, x2, x3] [y0, y1, y2, y3] w (.returned (.agg #[.int .u64 z0, .int .u64 z1, .int .u64 z2, .int .u64 z3])) w1) := ⟨[z0, z1, z2, z3], c, rfl, rfl, h2, h3, h4, h5, (hB.drew).trans (h7.below (Nat.le_refl _))⟩
  obtain ⟨c0, c1, c2, c3⟩ := row_cells4 h6
  have rr1 := row_other rr.drewd h7 (by omega)
  obtain ⟨g0, g1, g2, g3⟩ := row_cells4 rr1
  obtain ⟨f0, f1, f2, f3⟩ := row_frz4 rr1
  have hne : w.heap.size + 1 + 1 ≠ w.heap.size := by omega
  clear rx ry rr hB h2 h3 h4 h5 h6 h7 h1 rr1
  go_wp2
  refine bodyPost_ret (v := .agg #[.int .u64 z0, .int .u64 z1, .int .u64 z2, .int .u64 z3]) (by simp [results, Try.results33, go_sem, g0, g1, g2, g3]) rfl ?_
  exact minus4_ret HP.out
end Go.Proofs.Ytllfpnnngdphfaa

/- The walks of words made from four words and back. -/
namespace Go.Proofs.Ytllfpnnngdphfaa
open Go.RowKit
set_option maxRecDepth 100000 in
set_option maxHeartbeats 400000 in
theorem wordsOf_any (a3 a2 a1 a0 : Int) (w : World) :
    Calls Try.prog 25 #[.agg #[.int .u64 a3, .int .u64 a2, .int .u64 a1, .int .u64 a0]] w (WideP a0 a1 a2 a3 w) := by
  go_enter Try.func25, Try.ntmps25
  go_wp2
  refine bodyPost_ret (v := .agg #[.int .u64 a0, .int .u64 a1, .int .u64 a2, .int .u64 a3]) (by simp [results, Try.results25, go_sem]) rfl ?_
  exact ⟨rfl, ((Below.refl _ _).alloc (Nat.le_refl _) _).alloc (by simp) _⟩
set_option maxRecDepth 100000 in
set_option maxHeartbeats 400000 in
theorem wideOf_any (a3 a2 a1 a0 : Int) (w : World) :
    Calls Try.prog 24 #[.agg #[.int .u64 a0, .int .u64 a1, .int .u64 a2, .int .u64 a3]] w (WideP a3 a2 a1 a0 w) := by
  go_enter Try.func24, Try.ntmps24
  go_wp2
  refine bodyPost_ret (v := .agg #[.int .u64 a3, .int .u64 a2, .int .u64 a1, .int .u64 a0]) (by simp [results, Try.results24, go_sem]) rfl ?_
  exact ⟨rfl, ((Below.refl _ _).alloc (Nat.le_refl _) _).alloc (by simp) _⟩
theorem words4 {a0 a1 a2 a3 : Int} (h0 : Word a0) (h1 : Word a1) (h2 : Word a2) (h3 : Word a3) : Words [a0, a1, a2, a3] := by
  intro d hd
  simp only [List.mem_cons, List.not_mem_nil, or_false] at hd
  rcases hd with rfl | rfl | rfl | rfl
  · exact h0
  · exact h1
  · exact h2
  · exact h3
theorem words4_of {a0 a1 a2 a3 : Int} (h : Words [a0, a1, a2, a3]) : Word a0 ∧ Word a1 ∧ Word a2 ∧ Word a3 := ⟨h _ (by simp), h _ (by simp), h _ (by simp), h _ (by simp)⟩
theorem val64_4 (a0 a1 a2 a3 : Int) : val64 [a0, a1, a2, a3] = uw a3 a2 a1 a0 := by simp only [val64, uw]; omega
/-- The sum of four words, cut off, and what the signs say of it. -/
theorem plus_told {a3 a2 a1 a0 b3 b2 b1 b0 z3 z2 z1 z0 c : Int} (h3 : Word a3) (h2 : Word a2) (h1 : Word a1) (h0 : Word a0) (k3 : Word b3) (k2 : Word b2) (k1 : Word b1) (k0 : Word b0) (l3 : Word z3) (l2 : Word z2) (l1 : Word z1) (l0 : Word z0) (c0 : 0 ≤ c) (c1 : c ≤ 1)
    (e : uw z3 z2 z1 z0 + c * 115792089237316195423570985008687907853269984665640564039457584007913129639936 = uw a3 a2 a1 a0 + uw b3 b2 b1 b0) :
    if ((a3 / 9223372036854775808 == 1) = (b3 / 9223372036854775808 == 1) ∧ (z3 / 9223372036854775808 == 1) ≠ (a3 / 9223372036854775808 == 1)) then told (sw a3 a2 a1 a0 + sw b3 b2 b1 b0) = false else told (sw a3 a2 a1 a0 + sw b3 b2 b1 b0) = true ∧ sw z3 z2 z1 z0 = sw a3 a2 a1 a0 + sw b3 b2 b1 b0 := by
  have ha : (a3 / 9223372036854775808 == 1) = decide (9223372036854775808 ≤ a3) := by unfold Word at h3; rw [Bool.eq_iff_iff]; simp; omega
  have hb : (b3 / 9223372036854775808 == 1) = decide (9223372036854775808 ≤ b3) := by unfold Word at k3; rw [Bool.eq_iff_iff]; simp; omega
  have hz : (z3 / 9223372036854775808 == 1) = decide (9223372036854775808 ≤ z3) := by unfold Word at l3; rw [Bool.eq_iff_iff]; simp; omega
  rw [ha, hb, hz]
  unfold told sw uw at *
  unfold Word at *
  by_cases p : 9223372036854775808 ≤ a3 <;> by_cases q : 9223372036854775808 ≤ b3 <;> by_cases r : 9223372036854775808 ≤ z3 <;> simp only [p, q, r, decide_true, decide_false] <;> simp only [show (a3 < 9223372036854775808) ↔ ¬ 9223372036854775808 ≤ a3 by omega, show (b3 < 9223372036854775808) ↔ ¬ 9223372036854775808 ≤ b3 by omega, show (z3 < 9223372036854775808) ↔ ¬ 9223372036854775808 ≤ z3 by omega, p, q, r, not_true, not_false_iff, if_true, if_false, decide_eq_true_iff, decide_eq_false_iff_not, Bool.false_eq_true, Bool.true_eq_false, ne_eq, and_self, and_true, and_false] <;> omega
/-- The difference of four words, cut off, and what the signs say of it. -/
theorem minus_told {a3 a2 a1 a0 b3 b2 b1 b0 z3 z2 z1 z0 c : Int} (h3 : Word a3) (h2 : Word a2) (h1 : Word a1) (h0 : Word a0) (k3 : Word b3) (k2 : Word b2) (k1 : Word b1) (k0 : Word b0) (l3 : Word z3) (l2 : Word z2) (l1 : Word z1) (l0 : Word z0) (c0 : 0 ≤ c) (c1 : c ≤ 1)
    (e : uw z3 z2 z1 z0 = uw a3 a2 a1 a0 - uw b3 b2 b1 b0 + c * 115792089237316195423570985008687907853269984665640564039457584007913129639936) :
    if ((a3 / 9223372036854775808 == 1) ≠ (b3 / 9223372036854775808 == 1) ∧ (z3 / 9223372036854775808 == 1) ≠ (a3 / 9223372036854775808 == 1)) then told (sw a3 a2 a1 a0 - sw b3 b2 b1 b0) = false else told (sw a3 a2 a1 a0 - sw b3 b2 b1 b0) = true ∧ sw z3 z2 z1 z0 = sw a3 a2 a1 a0 - sw b3 b2 b1 b0 := by
  have ha : (a3 / 9223372036854775808 == 1) = decide (9223372036854775808 ≤ a3) := by unfold Word at h3; rw [Bool.eq_iff_iff]; simp; omega
  have hb : (b3 / 9223372036854775808 == 1) = decide (9223372036854775808 ≤ b3) := by unfold Word at k3; rw [Bool.eq_iff_iff]; simp; omega
  have hz : (z3 / 9223372036854775808 == 1) = decide (9223372036854775808 ≤ z3) := by unfold Word at l3; rw [Bool.eq_iff_iff]; simp; omega
  rw [ha, hb, hz]
  unfold told sw uw at *
  unfold Word at *
  by_cases p : 9223372036854775808 ≤ a3 <;> by_cases q : 9223372036854775808 ≤ b3 <;> by_cases r : 9223372036854775808 ≤ z3 <;> simp only [p, q, r, decide_true, decide_false] <;> simp only [show (a3 < 9223372036854775808) ↔ ¬ 9223372036854775808 ≤ a3 by omega, show (b3 < 9223372036854775808) ↔ ¬ 9223372036854775808 ≤ b3 by omega, show (z3 < 9223372036854775808) ↔ ¬ 9223372036854775808 ≤ z3 by omega, p, q, r, not_true, not_false_iff, if_true, if_false, decide_eq_true_iff, decide_eq_false_iff_not, Bool.false_eq_true, Bool.true_eq_false, ne_eq, and_self, and_true, and_false] <;> omega
end Go.Proofs.Ytllfpnnngdphfaa

/- The walks of the program's sum and difference of four words. -/
namespace Go.Proofs.Ytllfpnnngdphfaa
open Go.RowKit
/-- What stands behind the sum's first statement. -/
def CutP (rel : Int → Int → Int → Int → Prop) (w wx : World) (a3 a2 a1 a0 b3 b2 b1 b0 : Int) (p : Value) : Prop :=
  ∃ g z3 z2 z1 z0, p = .pointer (some ⟨g, 0, none⟩) ∧ TwoW w wx a3 a2 a1 a0 b3 b2 b1 b0 ∧ Wd wx (w.heap.size + 1 + 1) 0 0 0 0 ∧ Wd wx g z3 z2 z1 z0 ∧ w.heap.size + 1 + 1 < g ∧ rel z3 z2 z1 z0
theorem cut_new {rel : Int → Int → Int → Int → Prop} {w wx : World} {a3 a2 a1 a0 b3 b2 b1 b0 z3 z2 z1 z0 : Int} {T : TypeId} (h : TwoW w wx a3 a2 a1 a0 b3 b2 b1 b0) (r : Wd wx (w.heap.size + 1 + 1) 0 0 0 0) (hr : rel z3 z2 z1 z0) :
    CutP rel w (wx.alloc (Obj.cells #[Value.int IntKind.u64 z3, Value.int IntKind.u64 z2, Value.int IntKind.u64 z1, Value.int IntKind.u64 z0] T)) a3 a2 a1 a0 b3 b2 b1 b0 (.pointer (some ⟨wx.heap.size, 0, none⟩)) :=
  ⟨_, z3, z2, z1, z0, rfl, h.alloc _, r.alloc _, Wd.new _ _ _ _ _ _ rfl, r.lt, hr⟩
theorem Wd.stored {W : World} {g : Nat} {a3 a2 a1 a0 : Int} (h : Wd W g a3 a2 a1 a0) (z3 z2 z1 z0 : Int) : Wd ((((W.setCell ⟨g, 0, none⟩ (.int .u64 z3)).setCell ⟨g, 1, none⟩ (.int .u64 z2)).setCell ⟨g, 2, none⟩ (.int .u64 z1)).setCell ⟨g, 3, none⟩ (.int .u64 z0)) g z3 z2 z1 z0 := by
  have e0 := h.c0; have e1 := h.c1; have e2 := h.c2; have e3 := h.c3
  have p0 := h.f0; have p1 := h.f1; have p2 := h.f2; have p3 := h.f3
  exact ⟨by simp [go_sem, e0], by simp [go_sem, e1], by simp [go_sem, e2], by simp [go_sem, e3], by simp [go_sem, p0], by simp [go_sem, p1], by simp [go_sem, p2], by simp [go_sem, p3], by simpa [World.setCell] using h.lt⟩
theorem cut_set {rel : Int → Int → Int → Int → Prop} {w wx : World} {a3 a2 a1 a0 b3 b2 b1 b0 y3 y2 y1 y0 z3 z2 z1 z0 : Int} {g : Nat} (h : TwoW w wx a3 a2 a1 a0 b3 b2 b1 b0) (r : Wd wx (w.heap.size + 1 + 1) 0 0 0 0) (G : Wd wx g y3 y2 y1 y0) (hg : w.heap.size + 1 + 1 < g) (hr : rel z3 z2 z1 z0) :
    CutP rel w ((((wx.setCell ⟨g, 0, none⟩ (.int .u64 z3)).setCell ⟨g, 1, none⟩ (.int .u64 z2)).setCell ⟨g, 2, none⟩ (.int .u64 z1)).setCell ⟨g, 3, none⟩ (.int .u64 z0)) a3 a2 a1 a0 b3 b2 b1 b0 (.pointer (some ⟨g, 0, none⟩)) :=
  ⟨g, z3, z2, z1, z0, rfl, h.set (by omega) _ _ _ _, r.set (by omega) _ _ _ _, G.stored _ _ _ _, hg, hr⟩
theorem cut_drew {rel : Int → Int → Int → Int → Prop} {w wx : World} {a3 a2 a1 a0 b3 b2 b1 b0 : Int} {p : Value} (h : CutP rel w wx a3 a2 a1 a0 b3 b2 b1 b0 p) : CutP rel w wx.drew a3 a2 a1 a0 b3 b2 b1 b0 p := by
  obtain ⟨g, z3, z2, z1, z0, e, T, R, G, hg, hr⟩ := h
  exact ⟨g, z3, z2, z1, z0, e, T.drew, R.drew, G.drew, hg, hr⟩
theorem cells8x {w W : World} {a3 a2 a1 a0 b3 b2 b1 b0 : Int} (h : TwoW w W a3 a2 a1 a0 b3 b2 b1 b0) : W.cell? ⟨w.heap.size, 0, none⟩ = some (.int .u64 a3) ∧ W.cell? ⟨w.heap.size, 1, none⟩ = some (.int .u64 a2) ∧ W.cell? ⟨w.heap.size, 2, none⟩ = some (.int .u64 a1) ∧ W.cell? ⟨w.heap.size, 3, none⟩ = some (.int .u64 a0) ∧ W.cell? ⟨w.heap.size + 1, 0, none⟩ = some (.int .u64 b3) ∧ W.cell? ⟨w.heap.size + 1, 1, none⟩ = some (.int .u64 b2) ∧ W.cell? ⟨w.heap.size + 1, 2, none⟩ = some (.int .u64 b1) ∧ W.cell? ⟨w.heap.size + 1, 3, none⟩ = some (.int .u64 b0) := ⟨h.a.c0, h.a.c1, h.a.c2, h.a.c3, h.b.c0, h.b.c1, h.b.c2, h.b.c3⟩
theorem cells12x {w W : World} {g : Nat} {a3 a2 a1 a0 b3 b2 b1 b0 z3 z2 z1 z0 : Int} (h : TwoW w W a3 a2 a1 a0 b3 b2 b1 b0) (G : Wd W g z3 z2 z1 z0) : W.cell? ⟨w.heap.size, 0, none⟩ = some (.int .u64 a3) ∧ W.cell? ⟨w.heap.size, 1, none⟩ = some (.int .u64 a2) ∧ W.cell? ⟨w.heap.size, 2, none⟩ = some (.int .u64 a1) ∧ W.cell? ⟨w.heap.size, 3, none⟩ = some (.int .u64 a0) ∧ W.cell? ⟨w.heap.size + 1, 0, none⟩ = some (.int .u64 b3) ∧ W.cell? ⟨w.heap.size + 1, 1, none⟩ = some (.int .u64 b2) ∧ W.cell? ⟨w.heap.size + 1, 2, none⟩ = some (.int .u64 b1) ∧ W.cell? ⟨w.heap.size + 1, 3, none⟩ = some (.int .u64 b0) ∧ W.cell? ⟨g, 0, none⟩ = some (.int .u64 z3) ∧ W.cell? ⟨g, 1, none⟩ = some (.int .u64 z2) ∧ W.cell? ⟨g, 2, none⟩ = some (.int .u64 z1) ∧ W.cell? ⟨g, 3, none⟩ = some (.int .u64 z0) := ⟨h.a.c0, h.a.c1, h.a.c2, h.a.c3, h.b.c0, h.b.c1, h.b.c2, h.b.c3, G.c0, G.c1, G.c2, G.c3⟩
def PlusR (a3 a2 a1 a0 b3 b2 b1 b0 z3 z2 z1 z0 : Int) : Prop := Word z3 ∧ Word z2 ∧ Word z1 ∧ Word z0 ∧ ∃ c, 0 ≤ c ∧ c ≤ 1 ∧ uw z3 z2 z1 z0 + c * 115792089237316195423570985008687907853269984665640564039457584007913129639936 = uw a3 a2 a1 a0 + uw b3 b2 b1 b0
def MinusR (a3 a2 a1 a0 b3 b2 b1 b0 z3 z2 z1 z0 : Int) : Prop := Word z3 ∧ Word z2 ∧ Word z1 ∧ Word z0 ∧ ∃ c, 0 ≤ c ∧ c ≤ 1 ∧ uw z3 z2 z1 z0 = uw a3 a2 a1 a0 - uw b3 b2 b1 b0 + c * 115792089237316195423570985008687907853269984665640564039457584007913129639936
theorem pw64_4 : pw64 4 = 115792089237316195423570985008687907853269984665640564039457584007913129639936 := by decide
theorem plusR_of {a3 a2 a1 a0 b3 b2 b1 b0 : Int} {w w' : World} {e : Ending} (h : PlusP [a0, a1, a2, a3] [b0, b1, b2, b3] w e w') : ∃ z3 z2 z1 z0, e = .returned (.agg #[.int .u64 z0, .int .u64 z1, .int .u64 z2, .int .u64 z3]) ∧ PlusR a3 a2 a1 a0 b3 b2 b1 b0 z3 z2 z1 z0 ∧ Below w.heap.size w w' := by
  obtain ⟨zs, c, rfl, h1, h2, h3, h4, h5, h6⟩ := h
  obtain ⟨z0, z1, z2, z3, rfl⟩ := list4 h1
  obtain ⟨g0, g1, g2, g3⟩ := words4_of h2
  rw [val64_4, val64_4, val64_4, show [a0, a1, a2, a3].length = 4 from rfl, pw64_4] at h5
  exact ⟨z3, z2, z1, z0, rfl, ⟨g3, g2, g1, g0, c, h3, h4, h5⟩, h6⟩
theorem minusR_of {a3 a2 a1 a0 b3 b2 b1 b0 : Int} {w w' : World} {e : Ending} (h : MinusP [a0, a1, a2, a3] [b0, b1, b2, b3] w e w') : ∃ z3 z2 z1 z0, e = .returned (.agg #[.int .u64 z0, .int .u64 z1, .int .u64 z2, .int .u64 z3]) ∧ MinusR a3 a2 a1 a0 b3 b2 b1 b0 z3 z2 z1 z0 ∧ Below w.heap.size w w' := by
  obtain ⟨zs, c, rfl, h1, h2, h3, h4, h5, h6⟩ := h
  obtain ⟨z0, z1, z2, z3, rfl⟩ := list4 h1
  obtain ⟨g0, g1, g2, g3⟩ := words4_of h2
  rw [val64_4, val64_4, val64_4, show [a0, a1, a2, a3].length = 4 from rfl, pw64_4] at h5
  exact ⟨z3, z2, z1, z0, rfl, ⟨g3, g2, g1, g0, c, h3, h4, h5⟩, h6⟩
end Go.Proofs.Ytllfpnnngdphfaa
