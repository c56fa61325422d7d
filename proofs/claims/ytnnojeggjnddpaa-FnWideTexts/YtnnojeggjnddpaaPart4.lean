/- Part 4 of the walks that the proof leans on. -/
import Derived.Test.YtnnojeggjnddpaaPart3
import Derived.Test.YtnnojeggjnddpaaPart2
import Derived.Deep.RegionWith
import Derived.Shelf.Bits.Mul64
import Derived.Deep.RegionHeld3
import Derived.Deep.DeepCutAuto
import Derived.Test.YtnnojeggjnddpaaPart1
import Derived.Deep.LoopGhost
import Derived.WalkMore
import Derived.Deep.MidRow
import Derived.Deep.QuietTactic
import Derived.BigQuiet
/- Numbers of four words drawn from a code: the walk. -/
namespace Go.Proofs.Ytnnojeggjnddpaa
open Go.RowKit
theorem Rdr.setN {w : World} {g : Nat} {ao : Option Addr} {n cap : Nat} {cs : List Int} (h : Rdr w g ao n cap cs) {p : Addr} (hp : g < p.block) (u : Value) : Rdr (w.setCell p u) g ao n cap cs := by
  obtain ⟨q, hq, B⟩ := h.blk
  refine ⟨⟨q, hq, B.setO (by omega) u⟩, fun i hi => ?_, h.len, h.small, h.byte⟩
  obtain ⟨b, off, e, hb, hc⟩ := h.bytes i hi
  exact ⟨b, off, e, hb, (World.cell?_setCell_other _ _ _ _ (by intro e; rw [e] at hp; simp at hp; omega)).trans hc⟩
theorem Kept.setN {g : Nat} {a b : World} (h : Kept g a b) {p : Addr} (hp : a.heap.size ≤ p.block) (hg : g ≠ p.block) (u : Value) : Kept g a (b.setCell p u) :=
  ⟨h.os, h.tape, h.output, by simpa [World.setCell] using h.size, fun k hk hne => (Below.heap_setCell _ _ _ _ (by omega)).trans (h.block k hk hne), fun j hj hl => (World.cell?_setCell_other _ _ _ _ (by intro e; rw [e] at hg; exact hg rfl)).trans (h.other j hj hl)⟩
def IsWide (v : Value) : Prop := ∃ a3 a2 a1 a0 : Int, v = .agg #[.int .u64 a3, .int .u64 a2, .int .u64 a1, .int .u64 a0] ∧ Word a3 ∧ Word a2 ∧ Word a1 ∧ Word a0
theorem wide_done {w W : World} {g : Nat} {ao : Option Addr} {n cap : Nat} {cs : List Int} {a3 a2 a1 a0 : Int} (hg : g < w.heap.size) (R : Rdr W g ao n cap cs) (K : Kept g w W) (h3 : Word a3) (h2 : Word a2) (h1 : Word a1) (h0 : Word a0) {v0 v1 v2 v3 : Value} :
    RdP g ao n cap cs IsWide w (.returned (.agg #[.int .u64 a3, .int .u64 a2, .int .u64 a1, .int .u64 a0])) ((((W.setCell ⟨w.heap.size, 0, none⟩ v0).setCell ⟨w.heap.size, 1, none⟩ v1).setCell ⟨w.heap.size, 2, none⟩ v2).setCell ⟨w.heap.size, 3, none⟩ v3) :=
  ⟨_, rfl, ⟨a3, a2, a1, a0, rfl, h3, h2, h1, h0⟩, (((R.setN hg _).setN hg _).setN hg _).setN hg _, (((K.setN (Nat.le_refl _) (by show g ≠ w.heap.size; omega) _).setN (Nat.le_refl _) (by show g ≠ w.heap.size; omega) _).setN (Nat.le_refl _) (by show g ≠ w.heap.size; omega) _).setN (Nat.le_refl _) (by show g ≠ w.heap.size; omega) _⟩
theorem wide_done2 {w W : World} {g : Nat} {ao : Option Addr} {n cap : Nat} {cs : List Int} {a3 a2 a1 a0 : Int} (hg : g < w.heap.size) (R : Rdr W g ao n cap cs) (K : Kept g w W) (h3 : Word a3) (h2 : Word a2) (h1 : Word a1) (h0 : Word a0) {v0 v1 v2 v3 : Value} {o : Obj} :
    RdP g ao n cap cs IsWide w (.returned (.agg #[.int .u64 a3, .int .u64 a2, .int .u64 a1, .int .u64 a0])) (((((W.setCell ⟨w.heap.size, 0, none⟩ v0).setCell ⟨w.heap.size, 1, none⟩ v1).setCell ⟨w.heap.size, 2, none⟩ v2).setCell ⟨w.heap.size, 3, none⟩ v3).alloc o) := by
  obtain ⟨v, e, q, R', K'⟩ := wide_done (v0 := v0) (v1 := v1) (v2 := v2) (v3 := v3) hg R K h3 h2 h1 h0
  exact ⟨v, e, q, R'.alloc o, K'.alloc o⟩
theorem pick7 {W : World} {G : Nat} (h : Blk W G [.int .i64 0, .int .i64 1, .int .i64 (-1), .int .i64 2, .int .i64 10, .int .i64 (-9223372036854775808), .int .i64 9223372036854775807]) (k : Nat) (hk : k < 7) : ∃ v : Int, W.cell? ⟨G, k, none⟩ = some (.int .i64 v) ∧ -9223372036854775808 ≤ v ∧ v ≤ 9223372036854775807 := by
  rcases (by omega : k = 0 ∨ k = 1 ∨ k = 2 ∨ k = 3 ∨ k = 4 ∨ k = 5 ∨ k = 6) with rfl | rfl | rfl | rfl | rfl | rfl | rfl
  · exact ⟨_, h.c 0 rfl, by decide, by decide⟩
  · exact ⟨_, h.c 1 rfl, by decide, by decide⟩
  · exact ⟨_, h.c 2 rfl, by decide, by decide⟩
  · exact ⟨_, h.c 3 rfl, by decide, by decide⟩
  · exact ⟨_, h.c 4 rfl, by decide, by decide⟩
  · exact ⟨_, h.c 5 rfl, by decide, by decide⟩
  · exact ⟨_, h.c 6 rfl, by decide, by decide⟩
theorem word_div {p : Int} (h : Word p) (k : Nat) : Word (p / 2 ^ k) := by
  have h1 : (0 : Int) ≤ 2 ^ k := by rw [ipow2]; exact Int.natCast_nonneg _
  refine ⟨Int.ediv_nonneg h.1 h1, ?_⟩
  have := Int.ediv_le_self (b := 2 ^ k) h.1
  have := h.2
  omega
theorem tell_words {z : Int} {w w' : World} {e : Ending} (h : TellP z w e w') : ∃ a3 a2 a1 a0 b, e = .returned (.tuple #[.agg #[.int .u64 a3, .int .u64 a2, .int .u64 a1, .int .u64 a0], .bool b]) ∧ Word a3 ∧ Word a2 ∧ Word a1 ∧ Word a0 ∧ Below w.heap.size w w' := by
  obtain ⟨hB, ⟨_, a3, a2, a1, a0, rfl, g3, g2, g1, g0, _⟩ | ⟨_, rfl⟩⟩ := h
  · exact ⟨a3, a2, a1, a0, true, rfl, g3, g2, g1, g0, hB⟩
  · exact ⟨0, 0, 0, 0, false, rfl, ⟨by decide, by decide⟩, ⟨by decide, by decide⟩, ⟨by decide, by decide⟩, ⟨by decide, by decide⟩, hB⟩
set_option maxRecDepth 100000 in
set_option maxHeartbeats 4000000 in
theorem wide_any (g : Nat) (ao : Option Addr) (n cap : Nat) (cs : List Int) (w : World) (h : Rdr w g ao n cap cs) :
    Calls Try.prog 67 #[.pointer (some ⟨g, 0, none⟩)] w (RdP g ao n cap cs IsWide w) := by
  have hg := h.lt
  have hne : w.heap.size ≠ g := by omega
  have B := Blk.new w [.int .u64 0, .int .u64 0, .int .u64 0, .int .u64 0] 26 rfl
  have R := h.alloc (.cells #[.int .u64 0, .int .u64 0, .int .u64 0, .int .u64 0] 26)
  have K := (Kept.refl g w).alloc (.cells #[.int .u64 0, .int .u64 0, .int .u64 0, .int .u64 0] 26)
  clear h
  go_enter Try.func67, Try.ntmps67
  go_wp2_with fail
  refine (below_any 9 (by decide) (by decide) g ao n cap cs _ R).mono ?_
  rintro e w1 ⟨_, rfl, ⟨x, rfl, x0, x1⟩, R1, K1⟩
  replace B := B.kept K1 hne
  replace K := K.trans K1
  clear R K1
  have R := R1
  clear R1
  rcases (by omega : x = 0 ∨ x = 1 ∨ x = 2 ∨ x = 3 ∨ x = 4 ∨ x = 5 ∨ (x = 6 ∨ x = 7 ∨ x = 8)) with rfl | rfl | rfl | rfl | rfl | rfl | hx
  · have G := Blk.new w1 [.int .i64 0, .int .i64 1, .int .i64 (-1), .int .i64 2, .int .i64 10, .int .i64 (-9223372036854775808), .int .i64 9223372036854775807] 2 rfl
    have hG : w1.heap.size ≠ g := by have := R.lt; omega
    replace B := B.alloc (.cells #[.int .i64 0, .int .i64 1, .int .i64 (-1), .int .i64 2, .int .i64 10, .int .i64 (-9223372036854775808), .int .i64 9223372036854775807] 2)
    replace R := R.alloc (.cells #[.int .i64 0, .int .i64 1, .int .i64 (-1), .int .i64 2, .int .i64 10, .int .i64 (-9223372036854775808), .int .i64 9223372036854775807] 2)
    replace K := K.alloc (.cells #[.int .i64 0, .int .i64 1, .int .i64 (-1), .int .i64 2, .int .i64 10, .int .i64 (-9223372036854775808), .int .i64 9223372036854775807] 2)
    go_wp2_with fail
    refine (below_any 7 (by decide) (by decide) g ao n cap cs _ R).mono ?_
    rintro e w2 ⟨_, rfl, ⟨y, rfl, y0, y1⟩, R1, K1⟩
    replace B := B.kept K1 hne
    replace G := G.kept K1 hG
    replace K := K.trans K1
    clear R K1
    have R := R1
    clear R1
    obtain ⟨k, rfl⟩ := Int.eq_ofNat_of_zero_le y0
    obtain ⟨v, hv, v0, v1⟩ := pick7 G k (by omega)
    have k7 : (k : Int) < 7 := y1
    go_wp2_with fail
    refine (specOf_any v _ v0 v1).mono ?_
    rintro e w3 ⟨a3, a2, a1, a0, rfl, g3, g2, g1, g0, -, hB⟩
    replace B := B.step hB
    replace K := K.trans (Kept.of hB)
    replace R := R.step hB
    clear hB
    clear hv G
    have z0 := B.c 0 rfl; have y0 := B.f 0 rfl; have z1 := B.c 1 rfl; have y1 := B.f 1 rfl; have z2 := B.c 2 rfl; have y2 := B.f 2 rfl; have z3 := B.c 3 rfl; have y3 := B.f 3 rfl; have zl := B.lt
    go_wp2
    refine bodyPost_ret (v := .agg #[.int .u64 a3, .int .u64 a2, .int .u64 a1, .int .u64 a0]) (by simp [results, Try.results67, go_sem, z0, z1, z2, z3]) rfl ?_
    exact wide_done hg R K g3 g2 g1 g0
  · have G := Blk.new w1 [.int .u64 9223372036854775808, .int .u64 0, .int .u64 0, .int .u64 0, .int .u64 9223372036854775807, .int .u64 18446744073709551615, .int .u64 18446744073709551615, .int .u64 18446744073709551615, .int .u64 9223372036854775808, .int .u64 0, .int .u64 0, .int .u64 1, .int .u64 4611686018427387904, .int .u64 0, .int .u64 0, .int .u64 0, .int .u64 0, .int .u64 1, .int .u64 0, .int .u64 0, .int .u64 0, .int .u64 0, .int .u64 1, .int .u64 0] 26 rfl
    have hG : w1.heap.size ≠ g := by have := R.lt; omega
    replace B := B.alloc (.cells #[.int .u64 9223372036854775808, .int .u64 0, .int .u64 0, .int .u64 0, .int .u64 9223372036854775807, .int .u64 18446744073709551615, .int .u64 18446744073709551615, .int .u64 18446744073709551615, .int .u64 9223372036854775808, .int .u64 0, .int .u64 0, .int .u64 1, .int .u64 4611686018427387904, .int .u64 0, .int .u64 0, .int .u64 0, .int .u64 0, .int .u64 1, .int .u64 0, .int .u64 0, .int .u64 0, .int .u64 0, .int .u64 1, .int .u64 0] 26)
    replace R := R.alloc (.cells #[.int .u64 9223372036854775808, .int .u64 0, .int .u64 0, .int .u64 0, .int .u64 9223372036854775807, .int .u64 18446744073709551615, .int .u64 18446744073709551615, .int .u64 18446744073709551615, .int .u64 9223372036854775808, .int .u64 0, .int .u64 0, .int .u64 1, .int .u64 4611686018427387904, .int .u64 0, .int .u64 0, .int .u64 0, .int .u64 0, .int .u64 1, .int .u64 0, .int .u64 0, .int .u64 0, .int .u64 0, .int .u64 1, .int .u64 0] 26)
    replace K := K.alloc (.cells #[.int .u64 9223372036854775808, .int .u64 0, .int .u64 0, .int .u64 0, .int .u64 9223372036854775807, .int .u64 18446744073709551615, .int .u64 18446744073709551615, .int .u64 18446744073709551615, .int .u64 9223372036854775808, .int .u64 0, .int .u64 0, .int .u64 1, .int .u64 4611686018427387904, .int .u64 0, .int .u64 0, .int .u64 0, .int .u64 0, .int .u64 1, .int .u64 0, .int .u64 0, .int .u64 0, .int .u64 0, .int .u64 1, .int .u64 0] 26)
    go_wp2_with fail
    refine (below_any 6 (by decide) (by decide) g ao n cap cs _ R).mono ?_
    rintro e w2 ⟨_, rfl, ⟨y, rfl, q0, q1⟩, R1, K1⟩
    replace B := B.kept K1 hne
    replace G := G.kept K1 hG
    replace K := K.trans K1
    clear R K1
    have R := R1
    clear R1
    have z0 := B.c 0 rfl; have y0 := B.f 0 rfl; have z1 := B.c 1 rfl; have y1 := B.f 1 rfl; have z2 := B.c 2 rfl; have y2 := B.f 2 rfl; have z3 := B.c 3 rfl; have y3 := B.f 3 rfl; have zl := B.lt
    have gl := G.lt
    rcases (by omega : y = 0 ∨ y = 1 ∨ y = 2 ∨ y = 3 ∨ y = 4 ∨ y = 5) with rfl | rfl | rfl | rfl | rfl | rfl
    · have c0 := G.c 0 rfl; have c1 := G.c 1 rfl; have c2 := G.c 2 rfl; have c3 := G.c 3 rfl
      clear G
      go_wp2
      refine bodyPost_ret (v := .agg #[.int .u64 9223372036854775808, .int .u64 0, .int .u64 0, .int .u64 0]) (by simp [results, Try.results67, go_sem, z0, z1, z2, z3]) rfl ?_
      exact wide_done hg R K ⟨by decide, by decide⟩ ⟨by decide, by decide⟩ ⟨by decide, by decide⟩ ⟨by decide, by decide⟩
    · have c0 := G.c 4 rfl; have c1 := G.c 5 rfl; have c2 := G.c 6 rfl; have c3 := G.c 7 rfl
      clear G
      go_wp2
      refine bodyPost_ret (v := .agg #[.int .u64 9223372036854775807, .int .u64 18446744073709551615, .int .u64 18446744073709551615, .int .u64 18446744073709551615]) (by simp [results, Try.results67, go_sem, z0, z1, z2, z3]) rfl ?_
      exact wide_done hg R K ⟨by decide, by decide⟩ ⟨by decide, by decide⟩ ⟨by decide, by decide⟩ ⟨by decide, by decide⟩
    · have c0 := G.c 8 rfl; have c1 := G.c 9 rfl; have c2 := G.c 10 rfl; have c3 := G.c 11 rfl
      clear G
      go_wp2
      refine bodyPost_ret (v := .agg #[.int .u64 9223372036854775808, .int .u64 0, .int .u64 0, .int .u64 1]) (by simp [results, Try.results67, go_sem, z0, z1, z2, z3]) rfl ?_
      exact wide_done hg R K ⟨by decide, by decide⟩ ⟨by decide, by decide⟩ ⟨by decide, by decide⟩ ⟨by decide, by decide⟩
    · have c0 := G.c 12 rfl; have c1 := G.c 13 rfl; have c2 := G.c 14 rfl; have c3 := G.c 15 rfl
      clear G
      go_wp2
      refine bodyPost_ret (v := .agg #[.int .u64 4611686018427387904, .int .u64 0, .int .u64 0, .int .u64 0]) (by simp [results, Try.results67, go_sem, z0, z1, z2, z3]) rfl ?_
      exact wide_done hg R K ⟨by decide, by decide⟩ ⟨by decide, by decide⟩ ⟨by decide, by decide⟩ ⟨by decide, by decide⟩
    · have c0 := G.c 16 rfl; have c1 := G.c 17 rfl; have c2 := G.c 18 rfl; have c3 := G.c 19 rfl
      clear G
      go_wp2
      refine bodyPost_ret (v := .agg #[.int .u64 0, .int .u64 1, .int .u64 0, .int .u64 0]) (by simp [results, Try.results67, go_sem, z0, z1, z2, z3]) rfl ?_
      exact wide_done hg R K ⟨by decide, by decide⟩ ⟨by decide, by decide⟩ ⟨by decide, by decide⟩ ⟨by decide, by decide⟩
    · have c0 := G.c 20 rfl; have c1 := G.c 21 rfl; have c2 := G.c 22 rfl; have c3 := G.c 23 rfl
      clear G
      go_wp2
      refine bodyPost_ret (v := .agg #[.int .u64 0, .int .u64 0, .int .u64 1, .int .u64 0]) (by simp [results, Try.results67, go_sem, z0, z1, z2, z3]) rfl ?_
      exact wide_done hg R K ⟨by decide, by decide⟩ ⟨by decide, by decide⟩ ⟨by decide, by decide⟩ ⟨by decide, by decide⟩
  · go_wp2_with fail
    refine (once_any 2 (by decide) (by decide) g ao n cap cs _ R).mono ?_
    rintro e w2 ⟨_, rfl, ⟨b, rfl⟩, R1, K1⟩
    replace B := B.kept K1 hne
    replace K := K.trans K1
    clear R K1
    have R := R1
    clear R1
    have L := Rd.lit w2 (cs := #[.int .u32 1]) (e := 112) (zs := [1]) rfl rfl (by simp [maxLen])
    replace B := B.alloc (.cells #[.int .u32 1] 112)
    replace R := R.alloc (.cells #[.int .u32 1] 112)
    replace K := K.alloc (.cells #[.int .u32 1] 112)
    go_wp2_with fail
    refine (below_any 255 (by decide) (by decide) g ao n cap cs _ R).mono ?_
    rintro e w3 ⟨_, rfl, ⟨y, rfl, y0, y1⟩, R1, K1⟩
    replace B := B.kept K1 hne
    replace L := L.kept R K1
    replace K := K.trans K1
    clear R K1
    have R := R1
    clear R1
    obtain ⟨k, rfl⟩ := Int.eq_ofNat_of_zero_le y0
    go_wp2_with fail
    refine (left_any _ 1 1 k [1] _ rfl (dig_cons.2 ⟨by omega, dig_nil⟩) L (by omega) (by omega)).mono ?_
    rintro e w4 ⟨o1, n1, c1, zs1, rfl, k1, k2, k3, k4, k5, k6, hB⟩
    replace B := B.step hB
    replace K := K.trans (Kept.of hB)
    replace R := R.step hB
    clear hB L
    go_wp2_with fail
    refine (trim_any b o1 n1 c1 zs1 _ k1 k2 k4.1 k6 (by omega)).mono ?_
    rintro e w5 ⟨s2, o2, n2, c2, d2, rfl, l1, l2, l3, l4, l5, l6, l7, hB⟩
    have hv0 := val_nonneg k4.1
    have N : IsNum w5 s2 o2 n2 c2 d2 (if b then -val zs1 else val zs1) 1000 := num_of l1 l2 (by omega) l4 l5 l6 l7 (by cases b <;> simp <;> omega) (by intro hz; cases b <;> simp at hz ⊢ <;> omega)
    replace B := B.step hB
    replace K := K.trans (Kept.of hB)
    replace R := R.step hB
    clear hB k1 k2 k3 k4 k5 k6 l1 l2 l3 l4 l5 l6 l7 hv0
    go_wp2_with fail
    refine (toW_any s2 o2 n2 c2 d2 _ 1000 _ N (by omega)).mono ?_
    intro e w7 hT
    obtain ⟨a3, a2, a1, a0, b', rfl, g3, g2, g1, g0, hB⟩ := tell_words hT
    replace B := B.step hB
    replace K := K.trans (Kept.of hB)
    replace R := R.step hB
    clear hB hT N
    have z0 := B.c 0 rfl; have y0 := B.f 0 rfl; have z1 := B.c 1 rfl; have y1 := B.f 1 rfl; have z2 := B.c 2 rfl; have y2 := B.f 2 rfl; have z3 := B.c 3 rfl; have y3 := B.f 3 rfl; have zl := B.lt
    go_wp2
    refine bodyPost_ret (v := .agg #[.int .u64 a3, .int .u64 a2, .int .u64 a1, .int .u64 a0]) (by simp [results, Try.results67, go_sem, World.cell?_alloc_past, z0, z1, z2, z3, zl]) rfl ?_
    exact wide_done2 hg R K g3 g2 g1 g0
  · go_wp2_with fail
    refine (word_any g ao n cap cs _ R).mono ?_
    rintro e w2 ⟨_, rfl, ⟨a3, rfl, g3⟩, R1, K1⟩
    replace B := B.kept K1 hne
    replace K := K.trans K1
    clear R K1
    have R := R1
    clear R1
    go_wp2_with fail
    refine (word_any g ao n cap cs _ R).mono ?_
    rintro e w3 ⟨_, rfl, ⟨a2, rfl, g2⟩, R1, K1⟩
    replace B := B.kept K1 hne
    replace K := K.trans K1
    clear R K1
    have R := R1
    clear R1
    go_wp2_with fail
    refine (word_any g ao n cap cs _ R).mono ?_
    rintro e w4 ⟨_, rfl, ⟨a1, rfl, g1⟩, R1, K1⟩
    replace B := B.kept K1 hne
    replace K := K.trans K1
    clear R K1
    have R := R1
    clear R1
    go_wp2_with fail
    refine (word_any g ao n cap cs _ R).mono ?_
    rintro e w5 ⟨_, rfl, ⟨a0, rfl, g0⟩, R1, K1⟩
    replace B := B.kept K1 hne
    replace K := K.trans K1
    clear R K1
    have R := R1
    clear R1
    have z0 := B.c 0 rfl; have y0 := B.f 0 rfl; have z1 := B.c 1 rfl; have y1 := B.f 1 rfl; have z2 := B.c 2 rfl; have y2 := B.f 2 rfl; have z3 := B.c 3 rfl; have y3 := B.f 3 rfl; have zl := B.lt
    go_wp2
    refine bodyPost_ret (v := .agg #[.int .u64 a3, .int .u64 a2, .int .u64 a1, .int .u64 a0]) (by simp [results, Try.results67, go_sem, z0, z1, z2, z3]) rfl ?_
    exact wide_done hg R K g3 g2 g1 g0
  · go_wp2_with fail
    refine (word_any g ao n cap cs _ R).mono ?_
    rintro e w2 ⟨_, rfl, ⟨p, rfl, p0, p1⟩, R1, K1⟩
    replace B := B.kept K1 hne
    replace K := K.trans K1
    clear R K1
    have R := R1
    clear R1
    go_wp2_with fail
    refine (below_any 64 (by decide) (by decide) g ao n cap cs _ R).mono ?_
    rintro e w3 ⟨_, rfl, ⟨y, rfl, y0, y1⟩, R1, K1⟩
    replace B := B.kept K1 hne
    replace K := K.trans K1
    clear R K1
    have R := R1
    clear R1
    obtain ⟨k, rfl⟩ := Int.eq_ofNat_of_zero_le y0
    have hk : IntKind.u64.wrap (k : Int) = (k : Int) := by rw [IntKind.wrap_u64]; omega
    go_wp2_with fail
    refine (word_any g ao n cap cs _ R).mono ?_
    rintro e w4 ⟨_, rfl, ⟨a0, rfl, g0⟩, R1, K1⟩
    replace B := B.kept K1 hne
    replace K := K.trans K1
    clear R K1
    have R := R1
    clear R1
    have z0 := B.c 0 rfl; have y0 := B.f 0 rfl; have z1 := B.c 1 rfl; have y1 := B.f 1 rfl; have z2 := B.c 2 rfl; have y2 := B.f 2 rfl; have z3 := B.c 3 rfl; have y3 := B.f 3 rfl; have zl := B.lt
    go_wp2
    refine bodyPost_ret (v := .agg #[.int .u64 0, .int .u64 0, .int .u64 (p / 2 ^ k), .int .u64 a0]) (by simp [results, Try.results67, go_sem, z0, z1, z2, z3]) rfl ?_
    exact wide_done hg R K ⟨by decide, by decide⟩ ⟨by decide, by decide⟩ (word_div ⟨p0, p1⟩ k) g0
  · go_wp2_with fail
    refine (word_any g ao n cap cs _ R).mono ?_
    rintro e w2 ⟨_, rfl, ⟨p, rfl, p0, p1⟩, R1, K1⟩
    replace B := B.kept K1 hne
    replace K := K.trans K1
    clear R K1
    have R := R1
    clear R1
    go_wp2_with fail
    refine (int_any (wrap64 p) _ (by unfold wrap64; omega) (by unfold wrap64; omega)).mono ?_
    rintro e w3 ⟨s1, o1, n1, c1, d1, rfl, N1, hB⟩
    replace B := B.step hB
    replace K := K.trans (Kept.of hB)
    replace R := R.step hB
    clear hB
    go_wp2_with fail
    refine (word_any g ao n cap cs _ R).mono ?_
    rintro e w4 ⟨_, rfl, ⟨q, rfl, q0, q1⟩, R1, K1⟩
    replace B := B.kept K1 hne
    replace N1 := N1.kept R K1
    replace K := K.trans K1
    clear R K1
    have R := R1
    clear R1
    go_wp2_with fail
    refine (int_any (wrap64 q) _ (by unfold wrap64; omega) (by unfold wrap64; omega)).mono ?_
    rintro e w5 ⟨s2, o2, n2, c2, d2, rfl, N2, hB⟩
    replace B := B.step hB
    replace N1 := N1.below hB
    replace K := K.trans (Kept.of hB)
    replace R := R.step hB
    clear hB
    go_wp2_with fail
    refine (mul_any s1 s2 o1 o2 n1 n2 c1 c2 2 d1 d2 _ _ _ N1 N2 (by omega)).mono ?_
    rintro e w6 ⟨s3, o3, n3, c3, d3, rfl, N3, hB⟩
    replace B := B.step hB
    replace K := K.trans (Kept.of hB)
    replace R := R.step hB
    clear hB
    go_wp2_with fail
    refine (toW_any s3 o3 n3 c3 d3 _ (2 + 2) _ N3 (by omega)).mono ?_
    intro e w7 hT
    obtain ⟨a3, a2, a1, a0, b, rfl, g3, g2, g1, g0, hB⟩ := tell_words hT
    replace B := B.step hB
    replace K := K.trans (Kept.of hB)
    replace R := R.step hB
    clear hB hT N1 N2 N3
    have z0 := B.c 0 rfl; have y0 := B.f 0 rfl; have z1 := B.c 1 rfl; have y1 := B.f 1 rfl; have z2 := B.c 2 rfl; have y2 := B.f 2 rfl; have z3 := B.c 3 rfl; have y3 := B.f 3 rfl; have zl := B.lt
    go_wp2
    refine bodyPost_ret (v := .agg #[.int .u64 a3, .int .u64 a2, .int .u64 a1, .int .u64 a0]) (by simp [results, Try.results67, go_sem, World.cell?_alloc_past, z0, z1, z2, z3, zl]) rfl ?_
    exact wide_done2 hg R K g3 g2 g1 g0
  · have e0 : (x == 0) = false := by rw [beq_eq_false_iff_ne]; omega
    have e1 : (x == 1) = false := by rw [beq_eq_false_iff_ne]; omega
    have e2 : (x == 2) = false := by rw [beq_eq_false_iff_ne]; omega
    have e3 : (x == 3) = false := by rw [beq_eq_false_iff_ne]; omega
    have e4 : (x == 4) = false := by rw [beq_eq_false_iff_ne]; omega
    have e5 : (x == 5) = false := by rw [beq_eq_false_iff_ne]; omega
    clear hx
    go_wp2_with fail
    refine (near_any g ao n cap cs _ R).mono ?_
    rintro e w2 ⟨_, rfl, ⟨y, rfl, y0, y1⟩, R1, K1⟩
    replace B := B.kept K1 hne
    replace K := K.trans K1
    clear R K1
    have R := R1
    clear R1
    go_wp2_with fail
    refine (specOf_any y _ (by omega) (by omega)).mono ?_
    rintro e w3 ⟨a3, a2, a1, a0, rfl, g3, g2, g1, g0, -, hB⟩
    replace B := B.step hB
    replace K := K.trans (Kept.of hB)
    replace R := R.step hB
    clear hB
    have z0 := B.c 0 rfl; have y0 := B.f 0 rfl; have z1 := B.c 1 rfl; have y1 := B.f 1 rfl; have z2 := B.c 2 rfl; have y2 := B.f 2 rfl; have z3 := B.c 3 rfl; have y3 := B.f 3 rfl; have zl := B.lt
    go_wp2
    refine bodyPost_ret (v := .agg #[.int .u64 a3, .int .u64 a2, .int .u64 a1, .int .u64 a0]) (by simp [results, Try.results67, go_sem, z0, z1, z2, z3]) rfl ?_
    exact wide_done hg R K g3 g2 g1 g0
end Go.Proofs.Ytnnojeggjnddpaa

/- Two numbers drawn from a code: the walks. -/
namespace Go.Proofs.Ytnnojeggjnddpaa
open Go.RowKit
/-- The code as it lies: so many bytes. -/
structure Code (w : World) (ao : Option Addr) (n : Nat) (cs : List Int) : Prop where
  bytes : ∀ i, (h : i < cs.length) → ∃ b off, ao = some ⟨b, off, none⟩ ∧ b < w.heap.size ∧ w.cell? ⟨b, off + i, none⟩ = some (.int .u8 cs[i])
  len : cs.length = n
  small : n ≤ 1048576
  byte : ∀ c ∈ cs, 0 ≤ c ∧ c < 256
theorem Code.below {w w' : World} {ao : Option Addr} {n : Nat} {cs : List Int} (h : Code w ao n cs) (hB : Below w.heap.size w w') : Code w' ao n cs := by
  refine ⟨fun i hi => ?_, h.len, h.small, h.byte⟩
  obtain ⟨b, off, e, hb, hc⟩ := h.bytes i hi
  exact ⟨b, off, e, Nat.lt_of_lt_of_le hb hB.size, (hB.cell (p := ⟨b, off + i, none⟩) hb).trans hc⟩
def OpenP (ao : Option Addr) (n cap : Nat) (cs : List Int) (w : World) (e : Ending) (w' : World) : Prop := ∃ G, e = .returned (.pointer (some ⟨G, 0, none⟩)) ∧ w.heap.size ≤ G ∧ Rdr w' G ao n cap cs ∧ Below w.heap.size w w'
theorem open_any (ao : Option Addr) (n cap : Nat) (cs : List Int) (w : World) (h : Code w ao n cs) :
    Calls Try.prog 66 #[.slice ao n cap] w (OpenP ao n cap cs w) := by
  go_enter Try.func66, Try.ntmps66
  go_wp2
  go_ret
  refine ⟨w.heap.size, rfl, Nat.le_refl _, ⟨⟨0, Nat.zero_le _, Blk.new w [.slice ao n cap, .int .i64 0] 129 rfl⟩, fun i hi => ?_, h.len, h.small, h.byte⟩, (Below.refl _ _).alloc (Nat.le_refl _) _⟩
  obtain ⟨b, off, e, hb, hc⟩ := h.bytes i hi
  exact ⟨b, off, e, hb, cell_alloc hb hc⟩
end Go.Proofs.Ytnnojeggjnddpaa

/- The walks of plus and minus of 8 words. -/
namespace Go.Proofs.Ytnnojeggjnddpaa
open Go.RowKit
theorem list8 {l : List Int} (h : l.length = 8) : ∃ z0 z1 z2 z3 z4 z5 z6 z7, l = [z0, z1, z2, z3, z4, z5, z6, z7] := by
  match l, h with
  | [z0, z1, z2, z3, z4, z5, z6, z7], _ => exact ⟨z0, z1, z2, z3, z4, z5, z6, z7, rfl⟩
theorem row_of8 {w : World} {A : Nat} {x0 x1 x2 x3 x4 x5 x6 x7 : Int} (hl : A < w.heap.size) (h0 : w.cell? ⟨A, 0, none⟩ = some (.int .u64 x0)) (h1 : w.cell? ⟨A, 1, none⟩ = some (.int .u64 x1)) (h2 : w.cell? ⟨A, 2, none⟩ = some (.int .u64 x2)) (h3 : w.cell? ⟨A, 3, none⟩ = some (.int .u64 x3)) (h4 : w.cell? ⟨A, 4, none⟩ = some (.int .u64 x4)) (h5 : w.cell? ⟨A, 5, none⟩ = some (.int .u64 x5)) (h6 : w.cell? ⟨A, 6, none⟩ = some (.int .u64 x6)) (h7 : w.cell? ⟨A, 7, none⟩ = some (.int .u64 x7)) (f0 : w.frozen? ⟨A, 0, none⟩ = false) (f1 : w.frozen? ⟨A, 1, none⟩ = false) (f2 : w.frozen? ⟨A, 2, none⟩ = false) (f3 : w.frozen? ⟨A, 3, none⟩ = false) (f4 : w.frozen? ⟨A, 4, none⟩ = false) (f5 : w.frozen? ⟨A, 5, none⟩ = false) (f6 : w.frozen? ⟨A, 6, none⟩ = false) (f7 : w.frozen? ⟨A, 7, none⟩ = false) : Row w A 0 [x0, x1, x2, x3, x4, x5, x6, x7] := by
  refine ⟨fun i hi => ?_, fun i hi => ?_, hl⟩
  · simp only [Nat.zero_add]
    match i, hi with
    | 0, _ => exact h0
    | 1, _ => exact h1
    | 2, _ => exact h2
    | 3, _ => exact h3
    | 4, _ => exact h4
    | 5, _ => exact h5
    | 6, _ => exact h6
    | 7, _ => exact h7
  · simp only [Nat.zero_add]
    match i, hi with
    | 0, _ => exact f0
    | 1, _ => exact f1
    | 2, _ => exact f2
    | 3, _ => exact f3
    | 4, _ => exact f4
    | 5, _ => exact f5
    | 6, _ => exact f6
    | 7, _ => exact f7
theorem row_cells8 {w : World} {A : Nat} {x0 x1 x2 x3 x4 x5 x6 x7 : Int} (h : Row w A 0 [x0, x1, x2, x3, x4, x5, x6, x7]) : w.cell? ⟨A, 0, none⟩ = some (.int .u64 x0) ∧ w.cell? ⟨A, 1, none⟩ = some (.int .u64 x1) ∧ w.cell? ⟨A, 2, none⟩ = some (.int .u64 x2) ∧ w.cell? ⟨A, 3, none⟩ = some (.int .u64 x3) ∧ w.cell? ⟨A, 4, none⟩ = some (.int .u64 x4) ∧ w.cell? ⟨A, 5, none⟩ = some (.int .u64 x5) ∧ w.cell? ⟨A, 6, none⟩ = some (.int .u64 x6) ∧ w.cell? ⟨A, 7, none⟩ = some (.int .u64 x7) :=
  ⟨by simpa using h.cell 0 (by simp), by simpa using h.cell 1 (by simp), by simpa using h.cell 2 (by simp), by simpa using h.cell 3 (by simp), by simpa using h.cell 4 (by simp), by simpa using h.cell 5 (by simp), by simpa using h.cell 6 (by simp), by simpa using h.cell 7 (by simp)⟩
theorem row_frz8 {w : World} {A : Nat} {x0 x1 x2 x3 x4 x5 x6 x7 : Int} (h : Row w A 0 [x0, x1, x2, x3, x4, x5, x6, x7]) : w.frozen? ⟨A, 0, none⟩ = false ∧ w.frozen? ⟨A, 1, none⟩ = false ∧ w.frozen? ⟨A, 2, none⟩ = false ∧ w.frozen? ⟨A, 3, none⟩ = false ∧ w.frozen? ⟨A, 4, none⟩ = false ∧ w.frozen? ⟨A, 5, none⟩ = false ∧ w.frozen? ⟨A, 6, none⟩ = false ∧ w.frozen? ⟨A, 7, none⟩ = false :=
  ⟨by simpa using h.frz 0 (by simp), by simpa using h.frz 1 (by simp), by simpa using h.frz 2 (by simp), by simpa using h.frz 3 (by simp), by simpa using h.frz 4 (by simp), by simpa using h.frz 5 (by simp), by simpa using h.frz 6 (by simp), by simpa using h.frz 7 (by simp)⟩
theorem minus8_ret {w w1 : World} {xs ys : List Int} {e : Ending} {u0 u1 u2 u3 u4 u5 u6 u7 : Value} (h : MinusP xs ys w e w1) : MinusP xs ys w e ((((((((w1.setCell ⟨w.heap.size + 1 + 1, 0, none⟩ u0).setCell ⟨w.heap.size + 1 + 1, 1, none⟩ u1).setCell ⟨w.heap.size + 1 + 1, 2, none⟩ u2).setCell ⟨w.heap.size + 1 + 1, 3, none⟩ u3).setCell ⟨w.heap.size + 1 + 1, 4, none⟩ u4).setCell ⟨w.heap.size + 1 + 1, 5, none⟩ u5).setCell ⟨w.heap.size + 1 + 1, 6, none⟩ u6).setCell ⟨w.heap.size + 1 + 1, 7, none⟩ u7) := by
  obtain ⟨zs, c, h1, h2, h3, h4, h5, h6, h7⟩ := h
  exact ⟨zs, c, h1, h2, h3, h4, h5, h6, ((((((((h7.setCell (by show w.heap.size ≤ w.heap.size + 1 + 1; omega) _).setCell (by show w.heap.size ≤ w.heap.size + 1 + 1; omega) _).setCell (by show w.heap.size ≤ w.heap.size + 1 + 1; omega) _).setCell (by show w.heap.size ≤ w.heap.size + 1 + 1; omega) _).setCell (by show w.heap.size ≤ w.heap.size + 1 + 1; omega) _).setCell (by show w.heap.size ≤ w.heap.size + 1 + 1; omega) _).setCell (by show w.heap.size ≤ w.heap.size + 1 + 1; omega) _).setCell (by show w.heap.size ≤ w.heap.size + 1 + 1; omega) _)⟩
set_option maxRecDepth 100000 in
set_option maxHeartbeats 2000000 in
theorem minus8 (x0 x1 x2 x3 x4 x5 x6 x7 y0 y1 y2 y3 y4 y5 y6 y7 : Int) (wx : Words [x0, x1, x2, x3, x4, x5, x6, x7]) (wy : Words [y0, y1, y2, y3, y4, y5, y6, y7]) (w : World) :
    Calls Try.prog 90 #[.agg #[.int .u64 x0, .int .u64 x1, .int .u64 x2, .int .u64 x3, .int .u64 x4, .int .u64 x5, .int .u64 x6, .int .u64 x7], .agg #[.int .u64 y0, .int .u64 y1, .int .u64 y2, .int .u64 y3, .int .u64 y4, .int .u64 y5, .int .u64 y6, .int .u64 y7]] w (MinusP [x0, x1, x2, x3, x4, x5, x6, x7] [y0, y1, y2, y3, y4, y5, y6, y7] w) := by
  have rx : Row (((w.alloc (Obj.cells #[Value.int IntKind.u64 x0, Value.int IntKind.u64 x1, Value.int IntKind.u64 x2, Value.int IntKind.u64 x3, Value.int IntKind.u64 x4, Value.int IntKind.u64 x5, Value.int IntKind.u64 x6, Value.int IntKind.u64 x7] 82)).alloc (Obj.cells #[Value.int IntKind.u64 y0, Value.int IntKind.u64 y1, Value.int IntKind.u64 y2, Value.int IntKind.u64 y3, Value.int IntKind.u64 y4, Value.int IntKind.u64 y5, Value.int IntKind.u64 y6, Value.int IntKind.u64 y7] 82)).alloc (Obj.cells #[Value.int IntKind.u64 0, Value.int IntKind.u64 0, Value.int IntKind.u64 0, Value.int IntKind.u64 0, Value.int IntKind.u64 0, Value.int IntKind.u64 0, Value.int IntKind.u64 0, Value.int IntKind.u64 0] 82)) w.heap.size 0 [x0, x1, x2, x3, x4, x5, x6, x7] := row_of8 (by simp <;> omega) (by simp [go_sem]) (by simp [go_sem]) (by simp [go_sem]) (by simp [go_sem]) (by simp [go_sem]) (by simp [go_sem]) (by simp [go_sem]) (by simp [go_sem]) (by simp [go_sem]) (by simp [go_sem]) (by simp [go_sem]) (by simp [go_sem]) (by simp [go_sem]) (by simp [go_sem]) (by simp [go_sem]) (by simp [go_sem])
  have ry : Row (((w.alloc (Obj.cells #[Value.int IntKind.u64 x0, Value.int IntKind.u64 x1, Value.int IntKind.u64 x2, Value.int IntKind.u64 x3, Value.int IntKind.u64 x4, Value.int IntKind.u64 x5, Value.int IntKind.u64 x6, Value.int IntKind.u64 x7] 82)).alloc (Obj.cells #[Value.int IntKind.u64 y0, Value.int IntKind.u64 y1, Value.int IntKind.u64 y2, Value.int IntKind.u64 y3, Value.int IntKind.u64 y4, Value.int IntKind.u64 y5, Value.int IntKind.u64 y6, Value.int IntKind.u64 y7] 82)).alloc (Obj.cells #[Value.int IntKind.u64 0, Value.int IntKind.u64 0, Value.int IntKind.u64 0, Value.int IntKind.u64 0, Value.int IntKind.u64 0, Value.int IntKind.u64 0, Value.int IntKind.u64 0, Value.int IntKind.u64 0] 82)) (w.heap.size + 1) 0 [y0, y1, y2, y3, y4, y5, y6, y7] := row_of8 (by simp <;> omega) (by simp [go_sem]) (by simp [go_sem]) (by simp [go_sem]) (by simp [go_sem]) (by simp [go_sem]) (by simp [go_sem]) (by simp [go_sem]) (by simp [go_sem]) (by simp [go_sem]) (by simp [go_sem]) (by simp [go_sem]) (by simp [go_sem]) (by simp [go_sem]) (by simp [go_sem]) (by simp [go_sem]) (by simp [go_sem])
  have rr : Row (((w.alloc (Obj.cells #[Value.int IntKind.u64 x0, Value.int IntKind.u64 x1, Value.int IntKind.u64 x2, Value.int IntKind.u64 x3, Value.int IntKind.u64 x4, Value.int IntKind.u64 x5, Value.int IntKind.u64 x6, Value.int IntKind.u64 x7] 82)).alloc (Obj.cells #[Value.int IntKind.u64 y0, Value.int IntKind.u64 y1, Value.int IntKind.u64 y2, Value.int IntKind.u64 y3, Value.int IntKind.u64 y4, Value.int IntKind.u64 y5, Value.int IntKind.u64 y6, Value.int IntKind.u64 y7] 82)).alloc (Obj.cells #[Value.int IntKind.u64 0, Value.int IntKind.u64 0, Value.int IntKind.u64 0, Value.int IntKind.u64 0, Value.int IntKind.u64 0, Value.int IntKind.u64 0, Value.int IntKind.u64 0, Value.int IntKind.u64 0] 82)) (w.heap.size + 1 + 1) 0 [0, 0, 0, 0, 0, 0, 0, 0] := row_of8 (by simp <;> omega) (by simp [go_sem]) (by simp [go_sem]) (by simp [go_sem]) (by simp [go_sem]) (by simp [go_sem]) (by simp [go_sem]) (by simp [go_sem]) (by simp [go_sem]) (by simp [go_sem]) (by simp [go_sem]) (by simp [go_sem]) (by simp [go_sem]) (by simp [go_sem]) (by simp [go_sem]) (by simp [go_sem]) (by simp [go_sem])
  have hB : Below w.heap.size w (((w.alloc (Obj.cells #[Value.int IntKind.u64 x0, Value.int IntKind.u64 x1, Value.int IntKind.u64 x2, Value.int IntKind.u64 x3, Value.int IntKind.u64 x4, Value.int IntKind.u64 x5, Value.int IntKind.u64 x6, Value.int IntKind.u64 x7] 82)).alloc (Obj.cells #[Value.int IntKind.u64 y0, Value.int IntKind.u64 y1, Value.int IntKind.u64 y2, Value.int IntKind.u64 y3, Value.int IntKind.u64 y4, Value.int IntKind.u64 y5, Value.int IntKind.u64 y6, Value.int IntKind.u64 y7] 82)).alloc (Obj.cells #[Value.int IntKind.u64 0, Value.int IntKind.u64 0, Value.int IntKind.u64 0, Value.int IntKind.u64 0, Value.int IntKind.u64 0, Value.int IntKind.u64 0, Value.int IntKind.u64 0, Value.int IntKind.u64 0] 82)) := (((Below.refl _ _).alloc (Nat.le_refl _) _).alloc (by simp) _).alloc (by simp; omega) _
  go_enter Try.func90, Try.ntmps90
  go_wp2
  generalize ((w.alloc (Obj.cells #[Value.int IntKind.u64 x0, Value.int IntKind.u64 x1, Value.int IntKind.u64 x2, Value.int IntKind.u64 x3, Value.int IntKind.u64 x4, Value.int IntKind.u64 x5, Value.int IntKind.u64 x6, Value.int IntKind.u64 x7] 82)).alloc (Obj.cells #[Value.int IntKind.u64 y0, Value.int IntKind.u64 y1, Value.int IntKind.u64 y2, Value.int IntKind.u64 y3, Value.int IntKind.u64 y4, Value.int IntKind.u64 y5, Value.int IntKind.u64 y6, Value.int IntKind.u64 y7] 82)).alloc (Obj.cells #[Value.int IntKind.u64 0, Value.int IntKind.u64 0, Value.int IntKind.u64 0, Value.int IntKind.u64 0, Value.int IntKind.u64 0, Value.int IntKind.u64 0, Value.int IntKind.u64 0, Value.int IntKind.u64 0] 82) = W at *
  go_region_with ((go_at_call 110; refine (takeWords_any w.heap.size (w.heap.size + 1) 0 0 8 8 8 8 [x0, x1, x2, x3, x4, x5, x6, x7] [y0, y1, y2, y3, y4, y5, y6, y7] _ rfl rfl wx wy (row_drew rx) (row_drew ry) (by omega) (by omega)).mono ?_; rintro e w1 ⟨zs, c, rfl, h1, h2, h3, h4, h5, h6, h7⟩))
  obtain ⟨z0, z1, z2, z3, z4, z5, z6, z7, rfl⟩ := list8 h1
  have HP : Hid (MinusP [x0, x1, x2, x3, x4, x5, x6, x7] [y0, y1, y2, y3, y4, y5, y6, y7] w (.returned (.agg #[.int .u64 z0, .int .u64 z1, .int .u64 z2, .int .u64 z3, .int .u64 z4, .int .u64 z5, .int .u64 z6, .int .u64 z7])) w1) := ⟨[z0, z1, z2, z3, z4, z5, z6, z7], c, rfl, rfl, h2, h3, h4, h5, (hB.drew).trans (h7.below (Nat.le_refl _))⟩
  obtain ⟨c0, c1, c2, c3, c4, c5, c6, c7⟩ := row_cells8 h6
  have rr1 := row_other rr.drewd h7 (by omega)
  obtain ⟨g0, g1, g2, g3, g4, g5, g6, g7⟩ := row_cells8 rr1
  obtain ⟨f0, f1, f2, f3, f4, f5, f6, f7⟩ := row_frz8 rr1
  have hne : w.heap.size + 1 + 1 ≠ w.heap.size := by omega
  clear rx ry rr hB h2 h3 h4 h5 h6 h7 h1 rr1
  go_wp2
  refine bodyPost_ret (v := .agg #[.int .u64 z0, .int .u64 z1, .int .u64 z2, .int .u64 z3, .int .u64 z4, .int .u64 z5, .int .u64 z6, .int .u64 z7]) (by simp [results, Try.results90, go_sem, g0, g1, g2, g3, g4, g5, g6, g7]) rfl ?_
  exact minus8_ret HP.out
end Go.Proofs.Ytnnojeggjnddpaa

/- The walks of numbers of eight words: made of four, turned in their sign, told as four; and of the product of two words. -/
namespace Go.Proofs.Ytnnojeggjnddpaa
open Go.RowKit Go.Shelf
theorem mulLays : Lays.n264 Try.prog ⟨fun _ => 87, fun n => if n = 46 then 111 else 22, fun _ => 0⟩ where
  mixed := by kernel_rfl
  f264 := by kernel_rfl
  t46 := by kernel_rfl
  a46 := fun w => by kernel_rfl
  z46 := fun w => by kernel_rfl
  v46 := fun w => by kernel_rfl
  t53 := by kernel_rfl
  a53 := fun w => by kernel_rfl
  z53 := fun w => by kernel_rfl
  v53 := fun w => by kernel_rfl
def MulP (x y : Int) (w : World) (e : Ending) (w' : World) : Prop := e = .returned (.tuple #[.int .u64 (x * y / 18446744073709551616), .int .u64 (x * y % 18446744073709551616)]) ∧ w' = w
theorem mul64 (x y : Int) (hx : Word x) (hy : Word y) (w : World) : Calls Try.prog 87 #[.int .u64 x, .int .u64 y] w (MulP x y w) := by
  obtain ⟨hx0, hx1⟩ := hx
  obtain ⟨hy0, hy1⟩ := hy
  obtain ⟨x, rfl⟩ := Int.eq_ofNat_of_zero_le hx0
  obtain ⟨y, rfl⟩ := Int.eq_ofNat_of_zero_le hy0
  refine (Any.bits_Mul64 mulLays x y (by omega) (by omega) w).mono ?_
  rintro e w' ⟨rfl, rfl⟩
  exact ⟨by simp, rfl⟩
abbrev L8 (x0 x1 x2 x3 x4 x5 x6 x7 : Int) : Value := .agg #[.int .u64 x0, .int .u64 x1, .int .u64 x2, .int .u64 x3, .int .u64 x4, .int .u64 x5, .int .u64 x6, .int .u64 x7]
def LongP (x0 x1 x2 x3 x4 x5 x6 x7 : Int) (w : World) (e : Ending) (w' : World) : Prop := e = .returned (L8 x0 x1 x2 x3 x4 x5 x6 x7) ∧ Below w.heap.size w w'
/-- The words that a sign fills. -/
def fillW (a3 : Int) : Int := if a3 < 9223372036854775808 then 0 else 18446744073709551615
set_option maxRecDepth 100000 in
set_option maxHeartbeats 400000 in
theorem longOf_any (a3 a2 a1 a0 : Int) (h3 : Word a3) (w : World) :
    Calls Try.prog 89 #[.agg #[.int .u64 a3, .int .u64 a2, .int .u64 a1, .int .u64 a0]] w (LongP a0 a1 a2 a3 (fillW a3) (fillW a3) (fillW a3) (fillW a3) w) := by
  obtain ⟨f, hf⟩ : ∃ f, fillW a3 = f := ⟨_, rfl⟩
  have hd : IntKind.u64.wrap (wrap64 a3 / 9223372036854775808) = f := by
    unfold Word at h3
    rw [← hf, IntKind.wrap_u64]
    unfold fillW wrap64
    split <;> omega
  rw [hf]
  go_enter Try.func89, Try.ntmps89
  go_wp2
  refine bodyPost_ret (v := L8 a0 a1 a2 a3 f f f f) (by simp [results, Try.results89, go_sem]) rfl ?_
  exact ⟨rfl, ((Below.refl _ _).alloc (Nat.le_refl _) _).alloc (by simp) _⟩
/-- The number that eight words stand for, with its sign. -/
def sl (x0 x1 x2 x3 x4 x5 x6 x7 : Int) : Int := val64 [x0, x1, x2, x3, x4, x5, x6, x7] - (if x7 < 9223372036854775808 then 0 else 13407807929942597099574024998205846127479365820592393377723561443721764030073546976801874298166903427690031858186486050853753882811946569946433649006084096)
/-- The number with its sign turned where b holds, or as it was. -/
def SignP (x0 x1 x2 x3 x4 x5 x6 x7 : Int) (b : Bool) (w : World) (e : Ending) (w' : World) : Prop :=
  ∃ z0 z1 z2 z3 z4 z5 z6 z7, e = .returned (L8 z0 z1 z2 z3 z4 z5 z6 z7) ∧ Words [z0, z1, z2, z3, z4, z5, z6, z7] ∧ (∃ c, 0 ≤ c ∧ c ≤ 1 ∧ val64 [z0, z1, z2, z3, z4, z5, z6, z7] = if b then 0 - val64 [x0, x1, x2, x3, x4, x5, x6, x7] + c * 13407807929942597099574024998205846127479365820592393377723561443721764030073546976801874298166903427690031858186486050853753882811946569946433649006084096 else val64 [x0, x1, x2, x3, x4, x5, x6, x7]) ∧ Below w.heap.size w w'
theorem pw64_8 : pw64 8 = 13407807929942597099574024998205846127479365820592393377723561443721764030073546976801874298166903427690031858186486050853753882811946569946433649006084096 := by decide
set_option maxRecDepth 100000 in
set_option maxHeartbeats 1000000 in
theorem signed_any (x0 x1 x2 x3 x4 x5 x6 x7 : Int) (b : Bool) (wx : Words [x0, x1, x2, x3, x4, x5, x6, x7]) (w : World) :
    Calls Try.prog 53 #[L8 x0 x1 x2 x3 x4 x5 x6 x7, .bool b] w (SignP x0 x1 x2 x3 x4 x5 x6 x7 b w) := by
  have B0 := (Blk.new w [.int .u64 x0, .int .u64 x1, .int .u64 x2, .int .u64 x3, .int .u64 x4, .int .u64 x5, .int .u64 x6, .int .u64 x7] 82 rfl).alloc (.cells #[.int .u64 0, .int .u64 0, .int .u64 0, .int .u64 0, .int .u64 0, .int .u64 0, .int .u64 0, .int .u64 0] 82)
  have B1 := Blk.new (w.alloc (.cells #[.int .u64 x0, .int .u64 x1, .int .u64 x2, .int .u64 x3, .int .u64 x4, .int .u64 x5, .int .u64 x6, .int .u64 x7] 82)) [.int .u64 0, .int .u64 0, .int .u64 0, .int .u64 0, .int .u64 0, .int .u64 0, .int .u64 0, .int .u64 0] 82 (g := w.heap.size + 1) (by simp)
  have HB0 := ((Below.refl _ w).alloc (Nat.le_refl _) (.cells #[.int .u64 x0, .int .u64 x1, .int .u64 x2, .int .u64 x3, .int .u64 x4, .int .u64 x5, .int .u64 x6, .int .u64 x7] 82)).alloc (by simp) (.cells #[.int .u64 0, .int .u64 0, .int .u64 0, .int .u64 0, .int .u64 0, .int .u64 0, .int .u64 0, .int .u64 0] 82)
  have w0 : Words [0, 0, 0, 0, 0, 0, 0, 0] := by
    intro d hd
    simp at hd
    subst hd
    exact ⟨by decide, by decide⟩
  cases b
  · go_enter Try.func53, Try.ntmps53
    go_wp2
    refine bodyPost_ret (v := L8 x0 x1 x2 x3 x4 x5 x6 x7) (by simp [results, Try.results53, go_sem]) rfl ?_
    exact ⟨x0, x1, x2, x3, x4, x5, x6, x7, rfl, wx, ⟨0, by decide, by decide, by simp⟩, ((Below.refl _ _).alloc (Nat.le_refl _) _).alloc (by simp) _⟩
  · go_enter Try.func53, Try.ntmps53
    go_wp2_with fail
    refine (minus8 0 0 0 0 0 0 0 0 x0 x1 x2 x3 x4 x5 x6 x7 w0 wx _).mono ?_
    rintro e w1 ⟨zs, c, rfl, h1, h2, h3, h4, h5, hB⟩
    obtain ⟨z0, z1, z2, z3, z4, z5, z6, z7, rfl⟩ := list8 h1
    replace B1 := B1.step hB
    have HB : Below w.heap.size w w1 := HB0.trans (hB.mono HB0.size)
    have HV : val64 [z0, z1, z2, z3, z4, z5, z6, z7] = 0 - val64 [x0, x1, x2, x3, x4, x5, x6, x7] + c * 13407807929942597099574024998205846127479365820592393377723561443721764030073546976801874298166903427690031858186486050853753882811946569946433649006084096 := by
      rw [h5, show ([0, 0, 0, 0, 0, 0, 0, 0] : List Int).length = 8 from rfl, pw64_8]
      simp [val64]
    have c0 := B1.c 0 rfl; have f0 := B1.f 0 rfl; have c1 := B1.c 1 rfl; have f1 := B1.f 1 rfl; have c2 := B1.c 2 rfl; have f2 := B1.f 2 rfl; have c3 := B1.c 3 rfl; have f3 := B1.f 3 rfl; have c4 := B1.c 4 rfl; have f4 := B1.f 4 rfl; have c5 := B1.c 5 rfl; have f5 := B1.f 5 rfl; have c6 := B1.c 6 rfl; have f6 := B1.f 6 rfl; have c7 := B1.c 7 rfl; have f7 := B1.f 7 rfl
    have lt := B1.lt
    clear hB h5 h1 HB0 B0
    go_wp2
    refine bodyPost_ret (v := L8 z0 z1 z2 z3 z4 z5 z6 z7) (by simp [results, Try.results53, go_sem, c0, c1, c2, c3, c4, c5, c6, c7]) rfl ?_
    refine ⟨z0, z1, z2, z3, z4, z5, z6, z7, rfl, h2, ⟨c, h3, h4, by rw [if_pos rfl]; exact HV⟩, ?_⟩
    repeat' (refine Below.setCell ?_ (by simp) _)
    exact HB
end Go.Proofs.Ytnnojeggjnddpaa

/- The walks of the pieces of the program's long division: the shift down, a number times a digit. -/
namespace Go.Proofs.Ytnnojeggjnddpaa
open Go.RowKit
/-- A row that is made, beside one that is read. -/
structure MkX (w wr : World) (gx g gp : Nat) (xs : List Int) (vs : List Value) (zs : List Int) : Prop where
  m : Mk w wr g gp vs zs
  x : Blk wr gx (xs.map (Value.int .u64))
theorem MkX.drewN {w wr : World} {gx g gp : Nat} {xs : List Int} {vs : List Value} {zs : List Int} (h : MkX w wr gx g gp xs vs zs) (n : Nat) : MkX w (wr.drewN n) gx g gp xs vs zs := ⟨h.m.drewN n, h.x⟩
theorem MkX.drew {w wr : World} {gx g gp : Nat} {xs : List Int} {vs : List Value} {zs : List Int} (h : MkX w wr gx g gp xs vs zs) : MkX w wr.drew gx g gp xs vs zs := ⟨h.m.drew, h.x⟩
theorem MkX.set {w wr : World} {gx g gp : Nat} {xs : List Int} {vs : List Value} {zs : List Int} (h : MkX w wr gx g gp xs vs zs) (hx : gx ≠ gp) (hne : g ≠ gp) (hg : w.heap.size ≤ gp) (j : Nat) (hj : j < zs.length) (u : Int) : MkX w (wr.setCell ⟨gp, j, none⟩ (.int .u64 u)) gx g gp xs vs (zs.set j u) := ⟨h.m.set hne hg j hj u, h.x.setO hx _⟩
theorem mul64d (x y hi lo : Int) (hx : Word x) (hy : Word y) (h1 : x * y / 18446744073709551616 = hi) (h2 : x * y % 18446744073709551616 = lo) (w : World) : Calls Try.prog 87 #[.int .u64 x, .int .u64 y] w (fun e w' => e = .returned (.tuple #[.int .u64 hi, .int .u64 lo]) ∧ w' = w) := by
  refine (mul64 x y hx hy w).mono ?_
  rintro e w' ⟨rfl, rfl⟩
  rw [h1, h2]
  exact ⟨rfl, rfl⟩
theorem add64d (x y s c : Int) (hx : Word x) (hy : Word y) (h1 : (x + y) % 18446744073709551616 = s) (h2 : (x + y) / 18446744073709551616 = c) (w : World) : (callFunc 88 #[.int .u64 x, .int .u64 y, .int .u64 0]).run Try.prog w = .ok (.value (.tuple #[.int .u64 s, .int .u64 c])) w := by
  rw [add64 x y 0 hx hy (by decide) (by decide) w, Int.add_zero, h1, h2]
end Go.Proofs.Ytnnojeggjnddpaa

/- One digit of a long division: the reckoning, and a window of a row that is written. -/
namespace Go.Proofs.Ytnnojeggjnddpaa
open Go.RowKit
/-- The words of a row from a place on. -/
def win (rs : List Int) (place k : Nat) : List Int := (rs.drop place).take k
theorem win_len {rs : List Int} {place k : Nat} (h : place + k ≤ rs.length) : (win rs place k).length = k := by unfold win; simp; omega
theorem win_at {rs : List Int} {place k j : Nat} (h : place + k ≤ rs.length) (hj : j < k) (hj2 : j < (win rs place k).length) : (win rs place k)[j] = rs[place + j]'(by omega) := by simp only [win, List.getElem_take, List.getElem_drop]
theorem win_words {rs : List Int} (h : Words rs) (place k : Nat) : Words (win rs place k) := words_take (words_drop h place) k
/-- A row with other words from a place on. -/
def put (rs : List Int) (place : Nat) (zs : List Int) : List Int := rs.take place ++ (zs ++ rs.drop (place + zs.length))
/-- What is divided by the divisor's words at a place, and the digit there. -/
structure Kn (rs ys : List Int) (n place : Nat) : Prop where
  hl : rs.length = 9
  hm : ys.length = 9
  hr : Words rs
  hy : Words ys
  hn : 1 ≤ n
  hp : place + n ≤ 8
  top : ∀ m, m + 1 = n → (h : m < ys.length) → ys[m] ≠ 0
  lt : val64 (win rs place (n + 1)) < 18446744073709551616 * val64 (ys.take n)
theorem Kn.pos {rs ys : List Int} {n place : Nat} (h : Kn rs ys n place) : 0 < val64 (ys.take n) := by
  have hn := h.hn
  obtain ⟨m, rfl⟩ : ∃ m, n = m + 1 := ⟨n - 1, by omega⟩
  have hm := h.hm
  have hp := h.hp
  have i : m < ys.length := by omega
  rw [val64_take ys m i]
  have t := h.top m rfl i
  have w := words_at h.hy m i
  have e := val64_nonneg (words_take h.hy m)
  have p := pq_pos m
  have : pw64 m * 1 ≤ pw64 m * ys[m] := Int.mul_le_mul_of_nonneg_left (by have := w.1; omega) (by omega)
  omega
theorem Kn.guess {rs ys : List Int} {n place m pn pm : Nat} (h : Kn rs ys n place) (hmn : m + 1 = n) (hpn : place + n = pn) (hpm : place + m = pm) (i1 : pn < rs.length) (i2 : pm < rs.length) (i3 : m < ys.length) :
    val64 (win rs place (n + 1)) / val64 (ys.take n) ≤ guessV rs[pn] rs[pm] ys[m] ∧ 0 ≤ guessV rs[pn] rs[pm] ys[m] ∧ guessV rs[pn] rs[pm] ys[m] < 18446744073709551616 := by
  subst hmn hpn hpm
  have hl := h.hl
  have hp := h.hp
  have hwl := win_len (rs := rs) (place := place) (k := m + 1 + 1) (by omega)
  have t := h.top m rfl i3
  have w3 := words_at h.hy m i3
  have w1 := words_at h.hr _ i1
  have w2 := words_at h.hr _ i2
  have eB := val64_take ys m i3
  have eW : val64 (win rs place (m + 1 + 1)) = val64 ((win rs place (m + 1 + 1)).take m) + pw64 m * (rs[place + m] + 18446744073709551616 * rs[place + (m + 1)]) := by
    have e1 := val64_take (win rs place (m + 1 + 1)) (m + 1) (by omega)
    have e2 := val64_take (win rs place (m + 1 + 1)) m (by omega)
    rw [List.take_of_length_le (by omega), e2, win_at (by omega) (by omega), win_at (by omega) (by omega), pw64] at e1
    rw [e1]
    generalize pw64 m = p at *
    grind
  have g1 := vq_lt (words_take (win_words h.hr place (m + 1 + 1)) m)
  rw [List.length_take, Nat.min_eq_left (by omega)] at g1
  refine ⟨?_, ?_⟩
  · exact kn_guess (pq_pos m) eW g1 eB (val64_nonneg (words_take h.hy m)) (by have := w3.1; omega) h.lt (val64_nonneg (win_words h.hr _ _))
  · unfold guessV
    split
    · exact ⟨by decide, by decide⟩
    · next hlt =>
      have t0 : 0 < ys[m] := by have := w3.1; omega
      have := w1.1
      have := w2.1
      have := w2.2
      refine ⟨Int.ediv_nonneg (by omega) (by omega), ?_⟩
      apply Int.ediv_lt_of_lt_mul t0
      omega
end Go.Proofs.Ytnnojeggjnddpaa

/- The walk of one digit of the program's long division. -/
namespace Go.Proofs.Ytnnojeggjnddpaa
open Go.RowKit
/-- What stands while a digit is sought. -/
structure Tk (w wr : World) (rs ys : List Int) : Prop where
  below : Below w.heap.size w wr
  r : Blk wr w.heap.size (rs.map (Value.int .u64))
  y : Blk wr (w.heap.size + 1) (ys.map (Value.int .u64))
  o : Blk wr (w.heap.size + 1 + 1) (List.replicate 9 (Value.int .u64 0))
theorem Tk.step {w wr wr' : World} {rs ys : List Int} (h : Tk w wr rs ys) (hB : Below wr.heap.size wr wr') : Tk w wr' rs ys := ⟨h.below.trans (hB.mono h.below.size), h.r.step hB, h.y.step hB, h.o.step hB⟩
theorem Tk.drew {w wr : World} {rs ys : List Int} (h : Tk w wr rs ys) : Tk w wr.drew rs ys := ⟨h.below.drew, h.r, h.y, h.o⟩
theorem Tk.drewN {w wr : World} {rs ys : List Int} (h : Tk w wr rs ys) (n : Nat) : Tk w (wr.drewN n) rs ys := ⟨bdrew h.below n, h.r, h.y, h.o⟩
theorem Tk.cr {w wr : World} {rs ys : List Int} (h : Tk w wr rs ys) (j : Nat) (hj : j < rs.length) : wr.cell? ⟨w.heap.size, j, none⟩ = some (.int .u64 rs[j]) := h.r.c j (by simp [hj])
end Go.Proofs.Ytnnojeggjnddpaa

/- Long division, digit by digit: the reckoning. -/
namespace Go.Proofs.Ytnnojeggjnddpaa
open Go.RowKit
end Go.Proofs.Ytnnojeggjnddpaa

/- The program's long division: what lies in memory around its first statements. -/
namespace Go.Proofs.Ytnnojeggjnddpaa
open Go.RowKit
theorem Blk.cellsO {g b : Nat} {zs : List Value} (hne : g ≠ b) : ∀ (vs : List Value) (o : Nat) {w : World}, Blk w g zs → Blk (w.setCells b o vs) g zs
  | [], _, _, h => h
  | v :: r, o, w, h => by rw [World.setCells]; exact Blk.cellsO hne r (o + 1) (h.setO hne v)
theorem below_cells {B g : Nat} {w0 : World} (hg : B ≤ g) : ∀ (vs : List Value) (o : Nat) {w : World}, Below B w0 w → Below B w0 (w.setCells g o vs)
  | [], _, _, h => h
  | v :: r, o, w, h => by rw [World.setCells]; exact below_cells hg r (o + 1) (h.setCell hg v)
theorem ArgsB.cells {w W : World} {a b c d : List Value} (h : ArgsB w W [a, b, c, d]) {g : Nat} (hg : w.heap.size + 3 < g) (vs : List Value) : ArgsB w (W.setCells g 0 vs) [a, b, c, d] := by
  refine ⟨below_cells (by omega) vs 0 h.1, fun j us hj => Blk.cellsO ?_ vs 0 (h.2 j us hj)⟩
  have : j < 4 := by
    apply Decidable.byContradiction
    intro hn
    rw [List.getElem?_eq_none (by simp; omega)] at hj
    simp at hj
  omega
theorem Blk.there {W : World} {g : Nat} {vs : List Value} (h : Blk W g vs) {n : Nat} (hn : vs.length = n) : W.there g 0 n := fun j hj => by
  rw [Nat.zero_add, h.c j (List.getElem?_eq_getElem (by omega)), h.f j (List.getElem?_eq_getElem (by omega))]
  exact ⟨rfl, rfl⟩
end Go.Proofs.Ytnnojeggjnddpaa

/- The walk of the program's long division. -/
namespace Go.Proofs.Ytnnojeggjnddpaa
open Go.RowKit
end Go.Proofs.Ytnnojeggjnddpaa

/- The walk of a number of eight words, told as four. -/
namespace Go.Proofs.Ytnnojeggjnddpaa
open Go.RowKit
theorem tw_cells {x0 x1 x2 x3 x4 x5 x6 x7 : Int} {w W : World} (h : ArgsB w W [[.int .u64 x0, .int .u64 x1, .int .u64 x2, .int .u64 x3, .int .u64 x4, .int .u64 x5, .int .u64 x6, .int .u64 x7], [.int .u64 0, .int .u64 0, .int .u64 0, .int .u64 0], [.int .u64 x3, .int .u64 x2, .int .u64 x1, .int .u64 x0]]) : (fun w' => w'.cell? ⟨w.heap.size, 0, none⟩ = some (.int .u64 x0) ∧ w'.cell? ⟨w.heap.size, 1, none⟩ = some (.int .u64 x1) ∧ w'.cell? ⟨w.heap.size, 2, none⟩ = some (.int .u64 x2) ∧ w'.cell? ⟨w.heap.size, 3, none⟩ = some (.int .u64 x3) ∧ w'.cell? ⟨w.heap.size, 4, none⟩ = some (.int .u64 x4) ∧ w'.cell? ⟨w.heap.size, 5, none⟩ = some (.int .u64 x5) ∧ w'.cell? ⟨w.heap.size, 6, none⟩ = some (.int .u64 x6) ∧ w'.cell? ⟨w.heap.size, 7, none⟩ = some (.int .u64 x7) ∧ w'.cell? ⟨w.heap.size + 1 + 1, 0, none⟩ = some (.int .u64 x3) ∧ w'.cell? ⟨w.heap.size + 1 + 1, 1, none⟩ = some (.int .u64 x2) ∧ w'.cell? ⟨w.heap.size + 1 + 1, 2, none⟩ = some (.int .u64 x1) ∧ w'.cell? ⟨w.heap.size + 1 + 1, 3, none⟩ = some (.int .u64 x0)) W :=
  ⟨(h.b 0 rfl).c 0 rfl, (h.b 0 rfl).c 1 rfl, (h.b 0 rfl).c 2 rfl, (h.b 0 rfl).c 3 rfl, (h.b 0 rfl).c 4 rfl, (h.b 0 rfl).c 5 rfl, (h.b 0 rfl).c 6 rfl, (h.b 0 rfl).c 7 rfl, (h.b 2 rfl).c 0 rfl, (h.b 2 rfl).c 1 rfl, (h.b 2 rfl).c 2 rfl, (h.b 2 rfl).c 3 rfl⟩
theorem tw_start (x0 x1 x2 x3 x4 x5 x6 x7 : Int) (w : World) : ArgsB w (((w.alloc (.cells #[.int .u64 x0, .int .u64 x1, .int .u64 x2, .int .u64 x3, .int .u64 x4, .int .u64 x5, .int .u64 x6, .int .u64 x7] 82)).alloc (.cells #[.int .u64 0, .int .u64 0, .int .u64 0, .int .u64 0] 26)).alloc (.cells #[.int .u64 x3, .int .u64 x2, .int .u64 x1, .int .u64 x0] 26)) [[.int .u64 x0, .int .u64 x1, .int .u64 x2, .int .u64 x3, .int .u64 x4, .int .u64 x5, .int .u64 x6, .int .u64 x7], [.int .u64 0, .int .u64 0, .int .u64 0, .int .u64 0], [.int .u64 x3, .int .u64 x2, .int .u64 x1, .int .u64 x0]] := by
  refine ⟨(((Below.refl _ _).alloc (Nat.le_refl _) _).alloc (by simp) _).alloc (by simp; omega) _, fun j vs hj => ?_⟩
  match j, hj with
  | 0, hj => cases hj; exact ((Blk.new w [.int .u64 x0, .int .u64 x1, .int .u64 x2, .int .u64 x3, .int .u64 x4, .int .u64 x5, .int .u64 x6, .int .u64 x7] 82 rfl).alloc _).alloc _
  | 1, hj => cases hj; exact (Blk.new (w.alloc (.cells #[.int .u64 x0, .int .u64 x1, .int .u64 x2, .int .u64 x3, .int .u64 x4, .int .u64 x5, .int .u64 x6, .int .u64 x7] 82)) [.int .u64 0, .int .u64 0, .int .u64 0, .int .u64 0] 26 (by simp)).alloc _
  | 2, hj => cases hj; exact Blk.new ((w.alloc (.cells #[.int .u64 x0, .int .u64 x1, .int .u64 x2, .int .u64 x3, .int .u64 x4, .int .u64 x5, .int .u64 x6, .int .u64 x7] 82)).alloc (.cells #[.int .u64 0, .int .u64 0, .int .u64 0, .int .u64 0] 26)) [.int .u64 x3, .int .u64 x2, .int .u64 x1, .int .u64 x0] 26 (by simp)
  | j + 3, hj => simp at hj
theorem words8_of {x0 x1 x2 x3 x4 x5 x6 x7 : Int} (h : Words [x0, x1, x2, x3, x4, x5, x6, x7]) : Word x0 ∧ Word x1 ∧ Word x2 ∧ Word x3 ∧ Word x4 ∧ Word x5 ∧ Word x6 ∧ Word x7 := ⟨h _ (by simp), h _ (by simp), h _ (by simp), h _ (by simp), h _ (by simp), h _ (by simp), h _ (by simp), h _ (by simp)⟩
theorem sl_told {x0 x1 x2 x3 x4 x5 x6 x7 : Int} (h : Words [x0, x1, x2, x3, x4, x5, x6, x7]) (he : x4 = fillW x3 ∧ x5 = fillW x3 ∧ x6 = fillW x3 ∧ x7 = fillW x3) : told (sl x0 x1 x2 x3 x4 x5 x6 x7) = true ∧ sw x3 x2 x1 x0 = sl x0 x1 x2 x3 x4 x5 x6 x7 := by
  obtain ⟨h0, h1, h2, h3, h4, h5, h6, h7⟩ := words8_of h
  obtain ⟨e4, e5, e6, e7⟩ := he
  have hs : sw x3 x2 x1 x0 = sl x0 x1 x2 x3 x4 x5 x6 x7 := by
    unfold sl sw uw fillW Word at *
    simp only [val64]
    by_cases p : x3 < 9223372036854775808
    · rw [if_pos p] at e4 e5 e6 e7 ⊢
      subst e4 e5 e6 e7
      rw [if_pos (by decide)]
      omega
    · rw [if_neg p] at e4 e5 e6 e7 ⊢
      subst e4 e5 e6 e7
      rw [if_neg (by decide)]
      omega
  refine ⟨?_, hs⟩
  rw [← hs]
  unfold told
  apply decide_eq_true
  unfold sw uw Word at *
  by_cases p : x3 < 9223372036854775808
  · rw [if_pos p]; omega
  · rw [if_neg p]; omega
theorem sl_not {x0 x1 x2 x3 x4 x5 x6 x7 : Int} (h : Words [x0, x1, x2, x3, x4, x5, x6, x7]) (he : ¬ (x4 = fillW x3 ∧ x5 = fillW x3 ∧ x6 = fillW x3 ∧ x7 = fillW x3)) : told (sl x0 x1 x2 x3 x4 x5 x6 x7) = false := by
  obtain ⟨h0, h1, h2, h3, h4, h5, h6, h7⟩ := words8_of h
  unfold told
  apply decide_eq_false
  intro hh
  unfold sl fillW Word at *
  simp only [val64] at hh
  by_cases p : x3 < 9223372036854775808 <;> by_cases q : x7 < 9223372036854775808
  · rw [if_pos p] at he; rw [if_pos q] at hh; omega
  · rw [if_pos p] at he; rw [if_neg q] at hh; omega
  · rw [if_neg p] at he; rw [if_pos q] at hh; omega
  · rw [if_neg p] at he; rw [if_neg q] at hh; omega
set_option maxRecDepth 100000 in
set_option maxHeartbeats 2000000 in
theorem eqLong (x0 x1 x2 x3 y4 y5 y6 y7 x4 x5 x6 x7 : Int) (w : World) : (Op.equalIn 10000 82 (L8 x0 x1 x2 x3 y4 y5 y6 y7) (L8 x0 x1 x2 x3 x4 x5 x6 x7)).run Try.prog w = .ok (y4 == x4 && y5 == x5 && y6 == x6 && y7 == x7) w := by
  have u3 := Try.underlying22
  have a3 := Try.isAgg22
  have z3 := Try.sizeOf22
  rw [show (10000 : Nat) = 9999 + 1 from rfl, Op.equalIn]
  simp only [Sem.run_bind, run_underlying Try.underlying82, Result.andThen_ok]
  simp only [Std.Legacy.Range.forIn_eq_forIn_range', Std.Legacy.Range.size, Nat.sub_zero, Nat.add_sub_cancel, Nat.div_one, List.range'_succ, List.range'_zero, List.forIn_cons, List.forIn_nil]
  go_simp
  by_cases h4 : y4 = x4 <;> by_cases h5 : y5 = x5 <;> by_cases h6 : y6 = x6 <;> by_cases h7 : y7 = x7 <;> simp [h4, h5, h6, h7]
set_option maxRecDepth 100000 in
set_option maxHeartbeats 2000000 in
theorem tellWide_any (x0 x1 x2 x3 x4 x5 x6 x7 : Int) (wx : Words [x0, x1, x2, x3, x4, x5, x6, x7]) (w : World) :
    Calls Try.prog 52 #[L8 x0 x1 x2 x3 x4 x5 x6 x7] w (TellP (sl x0 x1 x2 x3 x4 x5 x6 x7) w) := by
  have T0 := tw_start x0 x1 x2 x3 x4 x5 x6 x7 w
  have h3 := (words8_of wx).2.2.2.1
  have EQ : ∀ W : World, (Op.equalIn 10000 82 (L8 x0 x1 x2 x3 (fillW x3) (fillW x3) (fillW x3) (fillW x3)) (L8 x0 x1 x2 x3 x4 x5 x6 x7)).run Try.prog W = .ok (fillW x3 == x4 && fillW x3 == x5 && fillW x3 == x6 && fillW x3 == x7) W := eqLong _ _ _ _ _ _ _ _ _ _ _ _
  obtain ⟨B, hB0⟩ : ∃ B, (fillW x3 == x4 && fillW x3 == x5 && fillW x3 == x6 && fillW x3 == x7) = B := ⟨_, rfl⟩
  simp only [hB0] at EQ
  go_enter Try.func52, Try.ntmps52
  go_upto_region 2 with fail
  generalize (((w.alloc (.cells #[.int .u64 x0, .int .u64 x1, .int .u64 x2, .int .u64 x3, .int .u64 x4, .int .u64 x5, .int .u64 x6, .int .u64 x7] 82)).alloc (.cells #[.int .u64 0, .int .u64 0, .int .u64 0, .int .u64 0] 26)).alloc (.cells #[.int .u64 x3, .int .u64 x2, .int .u64 x1, .int .u64 x0] 26)) = W at *
  go_cut [17] (fun q wc => q = .bool (!B) ∧ ArgsB w wc [[.int .u64 x0, .int .u64 x1, .int .u64 x2, .int .u64 x3, .int .u64 x4, .int .u64 x5, .int .u64 x6, .int .u64 x7], [.int .u64 0, .int .u64 0, .int .u64 0, .int .u64 0], [.int .u64 x3, .int .u64 x2, .int .u64 x1, .int .u64 x0]])
  case first =>
    go_region_held3 (fun w' => w'.cell? ⟨w.heap.size, 0, none⟩ = some (.int .u64 x0) ∧ w'.cell? ⟨w.heap.size, 1, none⟩ = some (.int .u64 x1) ∧ w'.cell? ⟨w.heap.size, 2, none⟩ = some (.int .u64 x2) ∧ w'.cell? ⟨w.heap.size, 3, none⟩ = some (.int .u64 x3) ∧ w'.cell? ⟨w.heap.size, 4, none⟩ = some (.int .u64 x4) ∧ w'.cell? ⟨w.heap.size, 5, none⟩ = some (.int .u64 x5) ∧ w'.cell? ⟨w.heap.size, 6, none⟩ = some (.int .u64 x6) ∧ w'.cell? ⟨w.heap.size, 7, none⟩ = some (.int .u64 x7) ∧ w'.cell? ⟨w.heap.size + 1 + 1, 0, none⟩ = some (.int .u64 x3) ∧ w'.cell? ⟨w.heap.size + 1 + 1, 1, none⟩ = some (.int .u64 x2) ∧ w'.cell? ⟨w.heap.size + 1 + 1, 2, none⟩ = some (.int .u64 x1) ∧ w'.cell? ⟨w.heap.size + 1 + 1, 3, none⟩ = some (.int .u64 x0)) (first | (with_reducible exact tw_cells T0) | (with_reducible exact tw_cells T0.drew))
      ((go_at_call 89; refine (longOf_any x3 x2 x1 x0 h3 _).mono ?_; rintro e w1 ⟨rfl, hB⟩; (first | (have T1 := T0.step hB) | (have T1 := T0.drew.step hB)); clear T0; have T0 := T1; clear T1; clear hB))
    all_goals go_wp2_with fail
    all_goals go_meet
    all_goals first | exact ⟨rfl, T0⟩ | exact ⟨rfl, T0.drew⟩
  case rest =>
    clear T0 EQ
    obtain ⟨hq, T0⟩ := hcut
    subst hq
    have HB := T0.below
    have p0 := (T0.b 1 rfl).c 0 rfl; have f0 := (T0.b 1 rfl).f 0 rfl; have q0 := (T0.b 2 rfl).c 0 rfl; have p1 := (T0.b 1 rfl).c 1 rfl; have f1 := (T0.b 1 rfl).f 1 rfl; have q1 := (T0.b 2 rfl).c 1 rfl; have p2 := (T0.b 1 rfl).c 2 rfl; have f2 := (T0.b 1 rfl).f 2 rfl; have q2 := (T0.b 2 rfl).c 2 rfl; have p3 := (T0.b 1 rfl).c 3 rfl; have f3 := (T0.b 1 rfl).f 3 rfl; have q3 := (T0.b 2 rfl).c 3 rfl
    have l1 := (T0.b 1 rfl).lt
    have l2 := (T0.b 2 rfl).lt
    clear T0
    cases B
    · have hn : ¬ (x4 = fillW x3 ∧ x5 = fillW x3 ∧ x6 = fillW x3 ∧ x7 = fillW x3) := by
        rintro ⟨e4, e5, e6, e7⟩
        rw [← e4] at hB0
        simp [← e4, e5, e6, e7] at hB0
      have HT := sl_not wx hn
      clear hB0 hn
      go_wp2
      refine bodyPost_ret (v := .tuple #[.agg #[.int .u64 0, .int .u64 0, .int .u64 0, .int .u64 0], .bool false]) (by simp [results, Try.results52, go_sem, p0, p1, p2, p3]) rfl ?_
      refine ⟨?_, Or.inr ⟨HT, rfl⟩⟩
      repeat' (refine Below.setCell ?_ (by simp) _)
      exact HB
    · have he : x4 = fillW x3 ∧ x5 = fillW x3 ∧ x6 = fillW x3 ∧ x7 = fillW x3 := by
        simp at hB0
        obtain ⟨⟨⟨e4, e5⟩, e6⟩, e7⟩ := hB0
        exact ⟨e4.symm, e5.symm, e6.symm, e7.symm⟩
      have HT := sl_told wx he
      obtain ⟨w0, w1, w2, w3, -, -, -, -⟩ := words8_of wx
      clear hB0 he
      go_wp2
      refine bodyPost_ret (v := .tuple #[.agg #[.int .u64 x3, .int .u64 x2, .int .u64 x1, .int .u64 x0], .bool true]) (by simp [results, Try.results52, go_sem, p0, p1, p2, p3]) rfl ?_
      refine ⟨?_, Or.inl ⟨HT.1, x3, x2, x1, x0, rfl, w3, w2, w1, w0, HT.2⟩⟩
      repeat' (refine Below.setCell ?_ (by simp) _)
      exact HB
end Go.Proofs.Ytnnojeggjnddpaa

/- The product of two numbers of four words: what the walk of its first statement wants. -/
namespace Go.Proofs.Ytnnojeggjnddpaa
open Go.RowKit
theorem ArgsB.set4 {w W : World} {a b c : List Value} (h : ArgsB w W [a, b, c]) {g : Nat} (hg : w.heap.size + 2 < g) (v0 v1 v2 v3 : Value) : ArgsB w ((((W.setCell ⟨g, 0, none⟩ v0).setCell ⟨g, 1, none⟩ v1).setCell ⟨g, 2, none⟩ v2).setCell ⟨g, 3, none⟩ v3) [a, b, c] :=
  (((h.set (by exact hg) _).set (by exact hg) _).set (by exact hg) _).set (by exact hg) _
/-- Two rows of four values laid behind the arguments. -/
def CutT (w wx : World) (vss : List (List Value)) (xs ys : List Value) (p q : Value) : Prop :=
  ∃ g g', p = .pointer (some ⟨g, 0, none⟩) ∧ q = .pointer (some ⟨g', 0, none⟩) ∧ g ≠ g' ∧ w.heap.size + 2 < g ∧ w.heap.size + 2 < g' ∧ ArgsB w wx vss ∧ Blk wx g xs ∧ Blk wx g' ys
theorem CutT.drew {w wx : World} {vss : List (List Value)} {xs ys : List Value} {p q : Value} (h : CutT w wx vss xs ys p q) : CutT w wx.drew vss xs ys p q := by
  obtain ⟨g, g', e, f, n, l, l', A, B, C⟩ := h
  exact ⟨g, g', e, f, n, l, l', A.drew, B.drew, C.drew⟩
end Go.Proofs.Ytnnojeggjnddpaa

/- A product of two rows of words added to a third row, round by round: the reckoning. -/
namespace Go.Proofs.Ytnnojeggjnddpaa
open Go.RowKit
end Go.Proofs.Ytnnojeggjnddpaa

/- A product of two rows of words added to a third row: the program's walk. -/
namespace Go.Proofs.Ytnnojeggjnddpaa
open Go.RowKit
structure ApW (w wr : World) (gp L g g' : Nat) (xs ys zs : List Int) : Prop where
  wrote : Wrote gp 0 L w wr
  z : Blk wr gp (zs.map (Value.int .u64))
  x : ∀ i, (h : i < xs.length) → wr.cell? ⟨g, i, none⟩ = some (.int .u64 xs[i])
  y : ∀ i, (h : i < ys.length) → wr.cell? ⟨g', i, none⟩ = some (.int .u64 ys[i])
theorem ApW.drewN {w wr : World} {gp L g g' : Nat} {xs ys zs : List Int} (h : ApW w wr gp L g g' xs ys zs) (n : Nat) : ApW w (wr.drewN n) gp L g g' xs ys zs :=
  ⟨⟨h.wrote.os, h.wrote.tape, h.wrote.output, h.wrote.size, h.wrote.block, h.wrote.cell, h.wrote.frz⟩, h.z, h.x, h.y⟩
theorem ApW.set {w wr : World} {gp L g g' : Nat} {xs ys zs : List Int} (h : ApW w wr gp L g g' xs ys zs) (ng : g ≠ gp) (ng' : g' ≠ gp) (j : Nat) (hj : j < zs.length) (hl : j < L) (u : Int) : ApW w (wr.setCell ⟨gp, j, none⟩ (.int .u64 u)) gp L g g' xs ys (zs.set j u) := by
  refine ⟨h.wrote.set j ⟨by omega, by omega⟩ _, ?_, fun i hi => ?_, fun i hi => ?_⟩
  · have := h.z.setI j (by simpa using hj) (.int .u64 u)
    rwa [← List.map_set] at this
  · rw [World.cell?_setCell_other _ _ _ _ (by intro e; simp only [Addr.mk.injEq] at e; exact ng e.1.symm)]; exact h.x i hi
  · rw [World.cell?_setCell_other _ _ _ _ (by intro e; simp only [Addr.mk.injEq] at e; exact ng' e.1.symm)]; exact h.y i hi
end Go.Proofs.Ytnnojeggjnddpaa

/- The walk of the program's product of two numbers of four words. -/
namespace Go.Proofs.Ytnnojeggjnddpaa
open Go.RowKit
def TimesP (z : Int) (w : World) (e : Ending) (w' : World) : Prop :=
  ∃ z0 z1 z2 z3 z4 z5 z6 z7, e = .returned (L8 z0 z1 z2 z3 z4 z5 z6 z7) ∧ Words [z0, z1, z2, z3, z4, z5, z6, z7] ∧ sl z0 z1 z2 z3 z4 z5 z6 z7 = z ∧ Below w.heap.size w w'
structure Tm3 (w wr : World) (vss : List (List Value)) (g g' gp : Nat) (xs ys zs : List Int) : Prop where
  args : ArgsB w wr vss
  x : Blk wr g (xs.map (Value.int .u64))
  y : Blk wr g' (ys.map (Value.int .u64))
  p : Blk wr gp (zs.map (Value.int .u64))
theorem Tm3.drew {w wr : World} {vss : List (List Value)} {g g' gp : Nat} {xs ys zs : List Int} (h : Tm3 w wr vss g g' gp xs ys zs) (n : Nat) : Tm3 w (wr.drewN n) vss g g' gp xs ys zs := ⟨⟨bdrew h.args.1 n, h.args.2⟩, h.x, h.y, h.p⟩
theorem Tm3.set {w wr : World} {vss : List (List Value)} {g g' gp : Nat} {xs ys zs : List Int} (h : Tm3 w wr vss g g' gp xs ys zs) (h1 : g ≠ gp) (h2 : g' ≠ gp) (hg : w.heap.size + vss.length ≤ gp) (j : Nat) (hj : j < zs.length) (u : Int) : Tm3 w (wr.setCell ⟨gp, j, none⟩ (.int .u64 u)) vss g g' gp xs ys (zs.set j u) :=
  ⟨h.args.set hg _, h.x.setO h1 _, h.y.setO h2 _, by have := h.p.setI j (by simpa using hj) (.int .u64 u); rwa [← List.map_set] at this⟩
theorem Tm3.cp {w wr : World} {vss : List (List Value)} {g g' gp : Nat} {xs ys zs : List Int} (h : Tm3 w wr vss g g' gp xs ys zs) (j : Nat) (hj : j < zs.length) : wr.cell? ⟨gp, j, none⟩ = some (.int .u64 zs[j]) ∧ wr.frozen? ⟨gp, j, none⟩ = false := ⟨h.p.c j (by simp [hj]), h.p.f j (v := .int .u64 zs[j]) (by simp [hj])⟩
theorem Tm3.step {w wr wr' : World} {vss : List (List Value)} {g g' gp : Nat} {xs ys zs : List Int} (h : Tm3 w wr vss g g' gp xs ys zs) (hB : Below wr.heap.size wr wr') : Tm3 w wr' vss g g' gp xs ys zs := ⟨h.args.step hB, h.x.step hB, h.y.step hB, h.p.step hB⟩
theorem Blk.wrote {W W' : World} {A off n g : Nat} {vs : List Value} (h : Blk W g vs) (hw : Wrote A off n W W') (hg : g ≠ A) : Blk W' g vs :=
  ⟨by rw [hw.size]; exact h.1, fun i v hi => ⟨(hw.cellOther hg i).trans (h.2 i v hi).1, (hw.frzOther hg i).trans (h.2 i v hi).2⟩⟩
theorem Tm3.wrote {w W W' : World} {vss : List (List Value)} {g g' gp : Nat} {xs ys zs zs' : List Int} (h : Tm3 w W vss g g' gp xs ys zs) (hw : Wrote gp 0 8 W W') (hz : Blk W' gp (zs'.map (Value.int .u64))) (ng : g ≠ gp) (ng' : g' ≠ gp) (hg : w.heap.size + vss.length ≤ gp) : Tm3 w W' vss g g' gp xs ys zs' :=
  ⟨⟨h.args.1.trans ((hw.below (Nat.le_of_add_right_le hg))), fun j vs hj => (h.args.2 j vs hj).wrote hw (by have := (List.getElem?_eq_some_iff.1 hj).1; omega)⟩, h.x.wrote hw ng, h.y.wrote hw ng', hz⟩
theorem sl_top {z0 z1 z2 z3 z4 z5 z6 z7 : Int} (h : Words [z0, z1, z2, z3, z4, z5, z6, z7]) : (z7 < 9223372036854775808 ↔ val64 [z0, z1, z2, z3, z4, z5, z6, z7] < 6703903964971298549787012499102923063739682910296196688861780721860882015036773488400937149083451713845015929093243025426876941405973284973216824503042048) ∧ 0 ≤ val64 [z0, z1, z2, z3, z4, z5, z6, z7] ∧ val64 [z0, z1, z2, z3, z4, z5, z6, z7] < 13407807929942597099574024998205846127479365820592393377723561443721764030073546976801874298166903427690031858186486050853753882811946569946433649006084096 := by
  obtain ⟨h0, h1, h2, h3, h4, h5, h6, h7⟩ := words8_of h
  unfold Word at *
  simp only [val64]
  omega
end Go.Proofs.Ytnnojeggjnddpaa

/- The walks of a number's size in eight words, and of the common divisor of two words. -/
namespace Go.Proofs.Ytnnojeggjnddpaa
open Go.RowKit
structure Gl (w wr : World) (xs ys : List Int) : Prop where
  below : Below w.heap.size w wr
  x : Blk wr w.heap.size (xs.map (Value.int .u64))
  y : Blk wr (w.heap.size + 1) (ys.map (Value.int .u64))
  o : Blk wr (w.heap.size + 1 + 1) [.int .u64 0, .int .u64 0, .int .u64 0, .int .u64 0, .int .u64 0, .int .u64 0, .int .u64 0, .int .u64 0]
theorem Gl.step {w wr wr' : World} {xs ys : List Int} (h : Gl w wr xs ys) (hB : Below wr.heap.size wr wr') : Gl w wr' xs ys := ⟨h.below.trans (hB.mono h.below.size), h.x.step hB, h.y.step hB, h.o.step hB⟩
end Go.Proofs.Ytnnojeggjnddpaa

/- The walk of the program's common divisor of two numbers of four words. -/
namespace Go.Proofs.Ytnnojeggjnddpaa
open Go.RowKit
end Go.Proofs.Ytnnojeggjnddpaa

/- The quotient bit by bit: the reckoning. -/
namespace Go.Proofs.Ytnnojeggjnddpaa
open Go.RowKit
end Go.Proofs.Ytnnojeggjnddpaa

/- The difference of digits and the trimming once more, with where their answers lie. -/
namespace Go.Proofs.Ytnnojeggjnddpaa
open Go.RowKit
end Go.Proofs.Ytnnojeggjnddpaa

/- The walk of the model's quotient and rest of digits, bit by bit. -/
namespace Go.Proofs.Ytnnojeggjnddpaa
open Go.RowKit
/-- What lies in memory between the rounds. -/
structure DvM (W wr : World) (g : Nat) (qs : List Int) (ro : Option Addr) (rn rc : Nat) (rs : List Int) (n : Nat) : Prop where
  below : Below W.heap.size W wr
  q : Blk wr g (qs.map (Value.int .u32))
  rlen : rs.length = rn
  rcap : rn ≤ rc
  rle : rn ≤ n
  rnrm : Nrm rs
  rrd : Rd wr ro rs
  rne : ∀ b off, ro = some ⟨b, off, none⟩ → rs ≠ [] → b ≠ g
theorem DvM.step {W wr wr' : World} {g : Nat} {qs : List Int} {ro : Option Addr} {rn rc : Nat} {rs : List Int} {n : Nat} (h : DvM W wr g qs ro rn rc rs n) (hB : Below wr.heap.size wr wr') : DvM W wr' g qs ro rn rc rs n :=
  ⟨h.below.trans (hB.mono h.below.size), h.q.step hB, h.rlen, h.rcap, h.rle, h.rnrm, h.rrd.below hB (Nat.le_refl _), h.rne⟩
end Go.Proofs.Ytnnojeggjnddpaa

/- The walk of the model's greatest common divisor. -/
namespace Go.Proofs.Ytnnojeggjnddpaa
open Go.RowKit
end Go.Proofs.Ytnnojeggjnddpaa

/- The walk of the model's common divisor of two numbers of four words. -/
namespace Go.Proofs.Ytnnojeggjnddpaa
open Go.RowKit
end Go.Proofs.Ytnnojeggjnddpaa

/- Fractions: whether one is right. -/
namespace Go.Proofs.Ytnnojeggjnddpaa
open Go.RowKit
/-- Two numbers as they lie in memory, side by side. -/
def TwoNP (x y : Int) (w : World) (e : Ending) (w' : World) : Prop :=
  ∃ (s : Bool) (ao : Option Addr) (n cap : Nat) (ds : List Int) (t : Bool) (bo : Option Addr) (m c : Nat) (es : List Int), e = .returned (.agg #[.bool s, .slice ao n cap, .bool t, .slice bo m c]) ∧ IsNum w' s ao n cap ds x 8 ∧ IsNum w' t bo m c es y 8 ∧ Below w.heap.size w w'
theorem IsNum.set {w : World} {s : Bool} {ao : Option Addr} {n cap : Nat} {ds : List Int} {z : Int} {k : Nat} (h : IsNum w s ao n cap ds z k) {p : Addr} {v : Value} (h0 : w.cell? p = some v) (hv : ∀ i, v ≠ .int .u32 i) (u : Value) : IsNum (w.setCell p u) s ao n cap ds z k :=
  ⟨h.neg, h.len, h.cap, h.rd.set u h0 hv, h.nrm, h.val, h.le⟩
theorem TwoNP.drew {x y : Int} {w w' : World} {e : Ending} (h : TwoNP x y w e w') : TwoNP x y w e w'.drew := by
  obtain ⟨s, ao, n, cap, ds, t, bo, m, c, es, he, N1, N2, hB⟩ := h
  exact ⟨s, ao, n, cap, ds, t, bo, m, c, es, he, ⟨N1.neg, N1.len, N1.cap, N1.rd, N1.nrm, N1.val, N1.le⟩, ⟨N2.neg, N2.len, N2.cap, N2.rd, N2.nrm, N2.val, N2.le⟩, hB.drew⟩
end Go.Proofs.Ytnnojeggjnddpaa

/- Fractions in their order: the program's walks. -/
namespace Go.Proofs.Ytnnojeggjnddpaa
open Go.RowKit
end Go.Proofs.Ytnnojeggjnddpaa

/- The quotient and the rest of numbers with signs: the reckoning. -/
namespace Go.Proofs.Ytnnojeggjnddpaa
open Go.RowKit
end Go.Proofs.Ytnnojeggjnddpaa

/- Quotients with their signs: the reckoning, and the walks of the pieces. -/
namespace Go.Proofs.Ytnnojeggjnddpaa
open Go.RowKit
/-- The number with its sign turned where b holds. -/
theorem signedL_any (x0 x1 x2 x3 x4 x5 x6 x7 : Int) (b : Bool) (wx : Words [x0, x1, x2, x3, x4, x5, x6, x7]) (hv : val64 [x0, x1, x2, x3, x4, x5, x6, x7] < 6703903964971298549787012499102923063739682910296196688861780721860882015036773488400937149083451713845015929093243025426876941405973284973216824503042048) (w : World) : Calls Try.prog 53 #[L8 x0 x1 x2 x3 x4 x5 x6 x7, .bool b] w (TimesP (if b then -val64 [x0, x1, x2, x3, x4, x5, x6, x7] else val64 [x0, x1, x2, x3, x4, x5, x6, x7]) w) := by
  refine (signed_any x0 x1 x2 x3 x4 x5 x6 x7 b wx w).mono ?_
  rintro e w1 ⟨z0, z1, z2, z3, z4, z5, z6, z7, rfl, wz, ⟨c, c0, c1, hz⟩, hB⟩
  refine ⟨z0, z1, z2, z3, z4, z5, z6, z7, rfl, wz, ?_, hB⟩
  obtain ⟨t1, t2, t3⟩ := sl_top wz
  have v0 := val64_nonneg wx
  unfold sl
  generalize val64 [z0, z1, z2, z3, z4, z5, z6, z7] = Z at *
  generalize val64 [x0, x1, x2, x3, x4, x5, x6, x7] = X at *
  simp only [t1]
  clear t1
  cases b
  · simp only [Bool.false_eq_true, if_false] at hz ⊢
    rw [if_pos (by omega)]
    omega
  · simp only [if_true] at hz ⊢
    obtain rfl | rfl : c = 0 ∨ c = 1 := by omega
    · rw [if_pos (by omega)]; omega
    · rw [if_neg (by omega)]; omega
/-- What is told, its words known ahead. -/
def tellV (z : Int) : Value := if told z then .tuple #[W4 z, .bool true] else .tuple #[W4 0, .bool false]
theorem tellWide_det (x0 x1 x2 x3 x4 x5 x6 x7 : Int) (wx : Words [x0, x1, x2, x3, x4, x5, x6, x7]) (z : Int) (hz : sl x0 x1 x2 x3 x4 x5 x6 x7 = z) (w : World) : Calls Try.prog 52 #[L8 x0 x1 x2 x3 x4 x5 x6 x7] w (VP (tellV z) w) := by
  refine (tellWide_any x0 x1 x2 x3 x4 x5 x6 x7 wx w).mono ?_
  rw [hz]
  rintro e w' ⟨hB, ⟨ht, a3, a2, a1, a0, rfl, g3, g2, g1, g0, hs⟩ | ⟨ht, rfl⟩⟩
  · obtain ⟨rfl, rfl, rfl, rfl⟩ := wd_of g3 g2 g1 g0 hs
    exact ⟨by unfold tellV; rw [ht]; rfl, hB⟩
  · exact ⟨by unfold tellV; rw [ht]; rfl, hB⟩
end Go.Proofs.Ytnnojeggjnddpaa

/- The program's quotient of two numbers of four words: what lies in memory around the division. -/
namespace Go.Proofs.Ytnnojeggjnddpaa
open Go.RowKit
end Go.Proofs.Ytnnojeggjnddpaa

/- Sums of numbers of eight words, and that words tell a number. -/
namespace Go.Proofs.Ytnnojeggjnddpaa
open Go.RowKit
end Go.Proofs.Ytnnojeggjnddpaa

/- The walk of the program's quotient and rest of two numbers of four words. -/
namespace Go.Proofs.Ytnnojeggjnddpaa
open Go.RowKit
theorem W40 : W4 0 = .agg #[.int .u64 0, .int .u64 0, .int .u64 0, .int .u64 0] := by simp [ww3, ww2, ww1, ww0]
end Go.Proofs.Ytnnojeggjnddpaa

/- Rows of eight values laid behind the arguments. -/
namespace Go.Proofs.Ytnnojeggjnddpaa
open Go.RowKit
end Go.Proofs.Ytnnojeggjnddpaa

/- The walk of what a long is when it is divided by a divisor of it, told as four words. -/
namespace Go.Proofs.Ytnnojeggjnddpaa
open Go.RowKit
end Go.Proofs.Ytnnojeggjnddpaa

/- A spot as a point: the walks of the model's numbers. -/
namespace Go.Proofs.Ytnnojeggjnddpaa
open Go.RowKit
end Go.Proofs.Ytnnojeggjnddpaa

/- A spot as a point: the walks of the model's point of numbers. -/
namespace Go.Proofs.Ytnnojeggjnddpaa
open Go.RowKit
def small (z : Int) : Bool := decide ((z.natAbs : Int) < 1208925819614629174706176)
end Go.Proofs.Ytnnojeggjnddpaa

/- Numbers by their own words: what is answered is known ahead. -/
namespace Go.Proofs.Ytnnojeggjnddpaa
open Go.RowKit
theorem ww_words (z : Int) : Word (ww3 z) ∧ Word (ww2 z) ∧ Word (ww1 z) ∧ Word (ww0 z) := by
  have h : ∀ x : Int, Word (x % 18446744073709551616) := fun x => ⟨Int.emod_nonneg _ (by decide), Int.emod_lt_of_pos _ (by decide)⟩
  exact ⟨h _, h _, h _, h _⟩
theorem ww_sw {z : Int} (h : told z = true) : sw (ww3 z) (ww2 z) (ww1 z) (ww0 z) = z := by
  unfold told at h
  rw [decide_eq_true_iff] at h
  unfold sw uw ww3 ww2 ww1 ww0
  split <;> omega
theorem sign_det (x : Int) (hx : told x = true) (w : World) : Calls Try.prog 34 #[W4 x] w (VP (.int .i64 (cmpI x 0)) w) := by
  obtain ⟨p3, p2, p1, p0⟩ := ww_words x
  have h := implSign_any (ww3 x) (ww2 x) (ww1 x) (ww0 x) p3 p2 p1 p0 w
  rw [ww_sw hx] at h
  exact h
theorem bitsW_det (x : Int) (hx : told x = true) (w : World) : Calls Try.prog 35 #[W4 x] w (BitsP (x.natAbs : Int) w) := by
  obtain ⟨p3, p2, p1, p0⟩ := ww_words x
  have h := implBits_any (ww3 x) (ww2 x) (ww1 x) (ww0 x) p3 p2 p1 p0 w
  rw [ww_sw hx] at h
  exact h
end Go.Proofs.Ytnnojeggjnddpaa

/- Points: the program's walks. -/
namespace Go.Proofs.Ytnnojeggjnddpaa
open Go.RowKit
theorem ArgsB.more {w W : World} {vss : List (List Value)} (h : ArgsB w W vss) (hl : W.heap.size = w.heap.size + vss.length) (b : List Value) (T : TypeId) : ArgsB w (W.alloc (.cells b.toArray T)) (vss ++ [b]) := by
  refine ⟨(h.alloc _).below, fun j vs hj => ?_⟩
  rcases Nat.lt_trichotomy j vss.length with hlt | rfl | hgt
  · rw [List.getElem?_append_left hlt] at hj
    exact (h.b j hj).alloc _
  · simp at hj
    subst hj
    exact Blk.new W b T hl.symm
  · rw [List.getElem?_eq_none (by simp; omega)] at hj
    cases hj
theorem ArgsB.left {w W : World} {us vs : List (List Value)} (h : ArgsB w W (us ++ vs)) : ArgsB w W us := by
  refine ⟨h.below, fun j xs hj => h.b j ?_⟩
  rw [List.getElem?_append_left]
  · exact hj
  · rcases Nat.lt_or_ge j us.length with h | h
    · exact h
    · rw [List.getElem?_eq_none h] at hj; cases hj
end Go.Proofs.Ytnnojeggjnddpaa

/- Points: what three numbers have in common. -/
namespace Go.Proofs.Ytnnojeggjnddpaa
open Go.RowKit
end Go.Proofs.Ytnnojeggjnddpaa

/- Points: whether one is right, by the program. -/
namespace Go.Proofs.Ytnnojeggjnddpaa
open Go.RowKit
end Go.Proofs.Ytnnojeggjnddpaa

/- The walk of the model's quotient and rest of numbers with signs. -/
namespace Go.Proofs.Ytnnojeggjnddpaa
open Go.RowKit
end Go.Proofs.Ytnnojeggjnddpaa

/- A spot as a point: the walks of the model's point, told, of the program's, and of the law. -/
namespace Go.Proofs.Ytnnojeggjnddpaa
open Go.RowKit
end Go.Proofs.Ytnnojeggjnddpaa

/- Points: the model's numbers of a point, and whether it is right. -/
namespace Go.Proofs.Ytnnojeggjnddpaa
open Go.RowKit
end Go.Proofs.Ytnnojeggjnddpaa

/- Points: the model's word on whether one is right. -/
namespace Go.Proofs.Ytnnojeggjnddpaa
open Go.RowKit
end Go.Proofs.Ytnnojeggjnddpaa

/- Fractions: the model's word on whether one is right, and the law over both. -/
namespace Go.Proofs.Ytnnojeggjnddpaa
open Go.RowKit
end Go.Proofs.Ytnnojeggjnddpaa

/- A number read from its text: the reckoning, of no program. -/
namespace Go.Proofs.Ytnnojeggjnddpaa
/-- Bytes without a sign. -/
def cutM (l : List Nat) : List Nat := if l.head? = some 45 then l.tail else l
/-- That bytes are a number of at most 77 digits as it is written. -/
def RdOk (l : List Nat) : Prop := DecL (cutM l) ∧ (cutM l).length ≤ 77 ∧ ¬ (l.head? = some 45 ∧ cutM l = [48])
/-- The number that bytes stand for. -/
def rdI (l : List Nat) : Int := if l.head? = some 45 then -(rdN (cutM l) : Int) else (rdN (cutM l) : Int)
theorem cutM_neg {l : List Nat} (h : l.head? = some 45) : l = 45 :: cutM l := by
  unfold cutM
  rw [if_pos h]
  cases l with
  | nil => simp at h
  | cons x t => simp only [List.head?_cons, Option.some.injEq] at h; rw [h]; rfl
theorem cutM_pos {l : List Nat} (h : ¬ l.head? = some 45) : cutM l = l := by unfold cutM; rw [if_neg h]
theorem rd_tx {l : List Nat} (h : RdOk l) : txL (rdI l) = l := by
  obtain ⟨h1, h2, h3⟩ := h
  have h4 := dgs_rdN h1
  unfold txL rdI
  by_cases hn : l.head? = some 45
  · rw [if_pos hn]
    have h5 : rdN (cutM l) ≠ 0 := by
      intro h6
      rw [h6, dgs_zero] at h4
      exact h3 ⟨hn, h4.symm⟩
    rw [if_pos (by omega), Int.natAbs_neg, Int.natAbs_natCast, h4]
    exact (cutM_neg hn).symm
  · rw [if_neg hn, if_neg (by omega), Int.natAbs_natCast, h4, cutM_pos hn]
    rfl
theorem head_dgs (n : Nat) : ¬ (dgs n).head? = some 45 := by
  intro h
  have h1 := dgs_isD n 45 (List.mem_of_mem_head? h)
  unfold isD at h1
  omega
theorem tx_neg {z : Int} (h : z < 0) : txL z = 45 :: dgs z.natAbs := by unfold txL; rw [if_pos h]; rfl
theorem tx_pos {z : Int} (h : ¬ z < 0) : txL z = dgs z.natAbs := by unfold txL; rw [if_neg h]; rfl
theorem tx_rd {z : Int} (h : z.natAbs < 10 ^ 77) : RdOk (txL z) ∧ rdI (txL z) = z := by
  have h1 := dgs_dec z.natAbs
  have h2 := dgs_len (k := 77) (by omega) h
  by_cases hz : z < 0
  · have hc : cutM (txL z) = dgs z.natAbs := by unfold cutM; rw [tx_neg hz]; rfl
    have hh : (txL z).head? = some 45 := by rw [tx_neg hz]; rfl
    refine ⟨⟨by rw [hc]; exact h1, by rw [hc]; exact h2, fun h3 => ?_⟩, ?_⟩
    · rw [hc] at h3
      have h4 := congrArg rdN h3.2
      rw [rdN_dgs] at h4
      have : z.natAbs = 0 := h4
      omega
    · unfold rdI
      rw [if_pos hh, hc, rdN_dgs]
      omega
  · have hh : ¬ (txL z).head? = some 45 := by rw [tx_pos hz]; exact head_dgs _
    have hc : cutM (txL z) = dgs z.natAbs := by rw [cutM_pos hh, tx_pos hz]
    refine ⟨⟨by rw [hc]; exact h1, by rw [hc]; exact h2, fun h3 => hh h3.1⟩, ?_⟩
    unfold rdI
    rw [if_neg hh, hc, rdN_dgs]
    omega
theorem tx_len {z : Int} (h : z.natAbs < 10 ^ 77) : (txL z).length ≤ 78 := by
  have h2 := dgs_len (k := 77) (by omega) h
  by_cases hz : z < 0
  · rw [tx_neg hz, List.length_cons]; omega
  · rw [tx_pos hz]; omega
theorem btL_extract (s : ByteArray) (a b : Nat) : btL (s.extract a b) = ((btL s).drop a).take (b - a) := by
  unfold btL
  rw [ByteArray.data_extract, Array.toList_extract, List.extract_eq_take_drop, List.map_take, List.map_drop]
end Go.Proofs.Ytnnojeggjnddpaa

/- The texts of fractions and of points: the program's. -/
namespace Go.Proofs.Ytnnojeggjnddpaa
open Go.RowKit
theorem told77 {z : Int} (h : told z = true) : z.natAbs < 10 ^ 77 := by
  have := of_decide_eq_true h
  omega
theorem txS_le {z : Int} (h : told z = true) : (txS z).size ≤ 78 := by
  unfold txS
  rw [strL_size]
  exact tx_len (told77 h)
theorem textI_det (x : Int) (hx : told x = true) (w : World) : Calls Try.prog 14 #[W4 x] w (VP (.string (txS x)) w) := by
  obtain ⟨g3, g2, g1, g0⟩ := ww_words x
  have := implText_any _ _ _ _ g3 g2 g1 g0 w
  rw [ww_sw hx] at this
  exact this
set_option maxRecDepth 100000 in
set_option maxHeartbeats 2000000 in
theorem eqW10 (x u : Int) (hx : told x = true) (hu : told u = true) (w : World) : (Op.equalIn 10000 26 (W4 x) (W4 u)).run Try.prog w = .ok (decide (x = u)) w := by
  have E : ∀ a3 a2 a1 a0 b3 b2 b1 b0 : Int, (Op.equalIn 10000 26 (.agg #[.int .u64 a3, .int .u64 a2, .int .u64 a1, .int .u64 a0]) (.agg #[.int .u64 b3, .int .u64 b2, .int .u64 b1, .int .u64 b0])).run Try.prog w = .ok (a3 == b3 && a2 == b2 && a1 == b1 && a0 == b0) w := by
    intro a3 a2 a1 a0 b3 b2 b1 b0
    have u3 := Try.underlying22
    have a3' := Try.isAgg22
    have z3 := Try.sizeOf22
    rw [show (10000 : Nat) = 9999 + 1 from rfl, Op.equalIn]
    simp only [Sem.run_bind, run_underlying Try.underlying26, Result.andThen_ok]
    go_simp
    by_cases h3 : a3 = b3
    · subst h3
      by_cases h2 : a2 = b2
      · subst h2
        by_cases h1 : a1 = b1
        · subst h1
          by_cases h0 : a0 = b0
          · subst h0
            simp
          · simp [h0]
        · simp [h1]
      · simp [h2]
    · simp [h3]
  rw [E]
  congr 1
  rw [Bool.eq_iff_iff]
  simp only [Bool.and_eq_true, beq_iff_eq, decide_eq_true_eq]
  constructor
  · rintro ⟨⟨⟨e3, e2⟩, e1⟩, e0⟩
    rw [← ww_sw hx, ← ww_sw hu, e3, e2, e1, e0]
  · rintro rfl
    exact ⟨⟨⟨rfl, rfl⟩, rfl⟩, rfl⟩
end Go.Proofs.Ytnnojeggjnddpaa

/- Texts of numbers drawn from a code. -/
namespace Go.Proofs.Ytnnojeggjnddpaa
open Go.RowKit
/-- Some text of at most 400 bytes. -/
def TxtP (w : World) (e : Ending) (w' : World) : Prop := ∃ t : ByteArray, e = .returned (.string t) ∧ t.size ≤ 400 ∧ Below w.heap.size w w'
theorem told_sw {a3 a2 a1 a0 : Int} (h3 : Word a3) (h2 : Word a2) (h1 : Word a1) (h0 : Word a0) : told (sw a3 a2 a1 a0) = true := by
  have := sw_bound h3 h2 h1 h0
  exact decide_eq_true (by omega)
def OneWP (w : World) (e : Ending) (w' : World) : Prop := ∃ a3 a2 a1 a0 : Int, e = .returned (.agg #[.int .u64 a3, .int .u64 a2, .int .u64 a1, .int .u64 a0]) ∧ Word a3 ∧ Word a2 ∧ Word a1 ∧ Word a0 ∧ Below w.heap.size w w'
set_option maxRecDepth 100000 in
set_option maxHeartbeats 8000000 in
theorem drawWideText_any (ao : Option Addr) (n cap : Nat) (cs : List Int) (w : World) (h : Code w ao n cs) : Calls Try.prog 31 #[.slice ao n cap] w (OneWP w) := by
  have B0 := Blk.new w [.int .u64 0, .int .u64 0, .int .u64 0, .int .u64 0] 26 rfl
  rw [show ([.int .u64 0, .int .u64 0, .int .u64 0, .int .u64 0] : List Value).toArray = #[.int .u64 0, .int .u64 0, .int .u64 0, .int .u64 0] from rfl] at B0
  have HB : Below w.heap.size w (w.alloc (.cells #[.int .u64 0, .int .u64 0, .int .u64 0, .int .u64 0] 26)) := (Below.refl _ _).alloc (Nat.le_refl _) _
  replace h := h.below HB
  go_enter Try.func31, Try.ntmps31
  go_wp2_with fail
  refine (open_any ao n cap cs _ h).mono ?_
  rintro e w1 ⟨g, rfl, hG, R, hB⟩
  simp at hG
  have h0 : w.heap.size ≠ g := by omega
  replace B0 := B0.step hB
  replace HB : Below w.heap.size w w1 := HB.trans (hB.mono HB.size)
  have hl := HB.size
  clear h hB
  go_wp2_with fail
  refine (wide_any g ao n cap cs _ R).mono ?_
  rintro e w2 ⟨_, rfl, ⟨a3, a2, a1, a0, rfl, p3, p2, p1, p0⟩, R1, K⟩
  replace B0 := B0.kept K h0
  replace HB : Below w.heap.size w w2 := HB.trans (K.below (by omega) hl)
  have dl := B0.lt
  have o0 := B0.c 0 rfl; have f0 := B0.f 0 rfl; have o1 := B0.c 1 rfl; have f1 := B0.f 1 rfl; have o2 := B0.c 2 rfl; have f2 := B0.f 2 rfl; have o3 := B0.c 3 rfl; have f3 := B0.f 3 rfl
  clear K R R1
  go_wp2
  refine bodyPost_ret (v := .agg #[.int .u64 a3, .int .u64 a2, .int .u64 a1, .int .u64 a0]) (by simp [results, Try.results31, go_sem, o0, o1, o2, o3]) rfl ?_
  have HBF : Below w.heap.size w _ := ((((HB.setCell (p := ⟨w.heap.size, 0, none⟩) (Nat.le_refl _) (.int .u64 a3)).setCell (p := ⟨w.heap.size, 1, none⟩) (Nat.le_refl _) (.int .u64 a2)).setCell (p := ⟨w.heap.size, 2, none⟩) (Nat.le_refl _) (.int .u64 a1)).setCell (p := ⟨w.heap.size, 3, none⟩) (Nat.le_refl _) (.int .u64 a0))
  exact ⟨a3, a2, a1, a0, rfl, p3, p2, p1, p0, HBF⟩
set_option maxRecDepth 100000 in
set_option maxHeartbeats 8000000 in
theorem drawReadWide_any (ao : Option Addr) (n cap : Nat) (cs : List Int) (w : World) (h : Code w ao n cs) : Calls Try.prog 32 #[.slice ao n cap] w (TxtP w) := by
  go_enter Try.func32, Try.ntmps32
  go_wp2_with fail
  refine (open_any ao n cap cs _ h).mono ?_
  rintro e w1 ⟨g, rfl, hG, R, HB⟩
  have hl := HB.size
  clear h
  go_wp2_with fail
  refine (wide_any g ao n cap cs _ R).mono ?_
  rintro e w2 ⟨_, rfl, ⟨a3, a2, a1, a0, rfl, p3, p2, p1, p0⟩, R1, K⟩
  clear R
  have CT := specText_any a3 a2 a1 a0 p3 p2 p1 p0
  have hT : (txS (sw a3 a2 a1 a0)).size ≤ 300 := Nat.le_trans (txS_le (told_sw p3 p2 p1 p0)) (by omega)
  generalize txS (sw a3 a2 a1 a0) = T at *
  go_wp2_with fail
  refine (CT _).mono ?_
  rintro e w3 ⟨rfl, hB⟩
  have R := R1.step hB
  replace K := K.trans (Kept.of hB)
  clear R1 hB CT
  go_wp2_with fail
  refine (below_any 10 (by decide) (by decide) g ao n cap cs _ R).mono ?_
  rintro e w4 ⟨_, rfl, ⟨v, rfl, v0, v1⟩, R4, K4⟩
  replace K := K.trans K4
  clear R K4
  have R := R4
  clear R4
  by_cases hv0 : v = 0
  · subst hv0
    have q1 : ¬ (9223372036854775807 < 1 + T.size) := by omega
    have HBF := HB.trans (K.below hG hl)
    clear R K HB
    go_wp2
    go_ret
    exact ⟨_, rfl, by rw [ByteArray.size_append]; show 1 + T.size ≤ 400; omega, HBF⟩
  · have b0 : (v == 0) = false := beq_eq_false_iff_ne.2 hv0
    by_cases hv1 : v = 1
    · subst hv1
      have q1 : ¬ (9223372036854775807 < 1 + T.size) := by omega
      have HBF := HB.trans (K.below hG hl)
      clear R K HB
      go_wp2
      go_ret
      exact ⟨_, rfl, by rw [ByteArray.size_append]; show 1 + T.size ≤ 400; omega, HBF⟩
    · have b1 : (v == 1) = false := beq_eq_false_iff_ne.2 hv1
      by_cases hv2 : v = 2
      · subst hv2
        have G := Blk.new w4 [.string ⟨#[]⟩, .string ⟨#[32]⟩, .string ⟨#[97]⟩, .string ⟨#[48]⟩] 9 rfl
        rw [show ([.string ⟨#[]⟩, .string ⟨#[32]⟩, .string ⟨#[97]⟩, .string ⟨#[48]⟩] : List Value).toArray = #[.string ⟨#[]⟩, .string ⟨#[32]⟩, .string ⟨#[97]⟩, .string ⟨#[48]⟩] from rfl] at G
        have hgl := R.lt
        have hgn : w4.heap.size ≠ g := by omega
        replace R := R.alloc (.cells #[.string ⟨#[]⟩, .string ⟨#[32]⟩, .string ⟨#[97]⟩, .string ⟨#[48]⟩] 9)
        replace K := K.alloc (.cells #[.string ⟨#[]⟩, .string ⟨#[32]⟩, .string ⟨#[97]⟩, .string ⟨#[48]⟩] 9)
        go_wp2_with fail
        refine (below_any 4 (by decide) (by decide) g ao n cap cs _ R).mono ?_
        rintro e w6 ⟨_, rfl, ⟨j, rfl, j0, j1⟩, R6, K6⟩
        replace G := G.kept K6 hgn
        replace K := K.trans K6
        obtain ⟨k, rfl⟩ : ∃ k : Nat, j = k := ⟨j.toNat, by omega⟩
        obtain ⟨u, hu, hus⟩ : ∃ u : ByteArray, w6.cell? ⟨w4.heap.size, k, none⟩ = some (.string u) ∧ u.size ≤ 100 := by
          rcases (by omega : k = 0 ∨ k = 1 ∨ k = 2 ∨ k = 3) with rfl | rfl | rfl | rfl
          · exact ⟨_, G.c 0 rfl, by decide⟩
          · exact ⟨_, G.c 1 rfl, by decide⟩
          · exact ⟨_, G.c 2 rfl, by decide⟩
          · exact ⟨_, G.c 3 rfl, by decide⟩
        have q1 : ¬ (9223372036854775807 < T.size + u.size) := by omega
        have HBF := HB.trans (K.below hG hl)
        clear G R R6 K6 K HB
        go_wp2
        go_ret
        exact ⟨_, rfl, by rw [ByteArray.size_append]; omega, HBF⟩
      · have b2 : (v == 2) = false := beq_eq_false_iff_ne.2 hv2
        by_cases hv3 : v = 3
        · subst hv3
          have G := Blk.new w4 [.string ⟨#[]⟩, .string ⟨#[45]⟩, .string ⟨#[45, 48]⟩, .string ⟨#[43, 49]⟩, .string ⟨#[53, 55, 56, 57, 54, 48, 52, 52, 54, 49, 56, 54, 53, 56, 48, 57, 55, 55, 49, 49, 55, 56, 53, 52, 57, 50, 53, 48, 52, 51, 52, 51, 57, 53, 51, 57, 50, 54, 54, 51, 52, 57, 57, 50, 51, 51, 50, 56, 50, 48, 50, 56, 50, 48, 49, 57, 55, 50, 56, 55, 57, 50, 48, 48, 51, 57, 53, 54, 53, 54, 52, 56, 49, 57, 57, 54, 56]⟩, .string ⟨#[45, 53, 55, 56, 57, 54, 48, 52, 52, 54, 49, 56, 54, 53, 56, 48, 57, 55, 55, 49, 49, 55, 56, 53, 52, 57, 50, 53, 48, 52, 51, 52, 51, 57, 53, 51, 57, 50, 54, 54, 51, 52, 57, 57, 50, 51, 51, 50, 56, 50, 48, 50, 56, 50, 48, 49, 57, 55, 50, 56, 55, 57, 50, 48, 48, 51, 57, 53, 54, 53, 54, 52, 56, 49, 57, 57, 54, 56]⟩, .string ⟨#[45, 53, 55, 56, 57, 54, 48, 52, 52, 54, 49, 56, 54, 53, 56, 48, 57, 55, 55, 49, 49, 55, 56, 53, 52, 57, 50, 53, 48, 52, 51, 52, 51, 57, 53, 51, 57, 50, 54, 54, 51, 52, 57, 57, 50, 51, 51, 50, 56, 50, 48, 50, 56, 50, 48, 49, 57, 55, 50, 56, 55, 57, 50, 48, 48, 51, 57, 53, 54, 53, 54, 52, 56, 49, 57, 57, 54, 57]⟩] 9 rfl
          rw [show ([.string ⟨#[]⟩, .string ⟨#[45]⟩, .string ⟨#[45, 48]⟩, .string ⟨#[43, 49]⟩, .string ⟨#[53, 55, 56, 57, 54, 48, 52, 52, 54, 49, 56, 54, 53, 56, 48, 57, 55, 55, 49, 49, 55, 56, 53, 52, 57, 50, 53, 48, 52, 51, 52, 51, 57, 53, 51, 57, 50, 54, 54, 51, 52, 57, 57, 50, 51, 51, 50, 56, 50, 48, 50, 56, 50, 48, 49, 57, 55, 50, 56, 55, 57, 50, 48, 48, 51, 57, 53, 54, 53, 54, 52, 56, 49, 57, 57, 54, 56]⟩, .string ⟨#[45, 53, 55, 56, 57, 54, 48, 52, 52, 54, 49, 56, 54, 53, 56, 48, 57, 55, 55, 49, 49, 55, 56, 53, 52, 57, 50, 53, 48, 52, 51, 52, 51, 57, 53, 51, 57, 50, 54, 54, 51, 52, 57, 57, 50, 51, 51, 50, 56, 50, 48, 50, 56, 50, 48, 49, 57, 55, 50, 56, 55, 57, 50, 48, 48, 51, 57, 53, 54, 53, 54, 52, 56, 49, 57, 57, 54, 56]⟩, .string ⟨#[45, 53, 55, 56, 57, 54, 48, 52, 52, 54, 49, 56, 54, 53, 56, 48, 57, 55, 55, 49, 49, 55, 56, 53, 52, 57, 50, 53, 48, 52, 51, 52, 51, 57, 53, 51, 57, 50, 54, 54, 51, 52, 57, 57, 50, 51, 51, 50, 56, 50, 48, 50, 56, 50, 48, 49, 57, 55, 50, 56, 55, 57, 50, 48, 48, 51, 57, 53, 54, 53, 54, 52, 56, 49, 57, 57, 54, 57]⟩] : List Value).toArray = #[.string ⟨#[]⟩, .string ⟨#[45]⟩, .string ⟨#[45, 48]⟩, .string ⟨#[43, 49]⟩, .string ⟨#[53, 55, 56, 57, 54, 48, 52, 52, 54, 49, 56, 54, 53, 56, 48, 57, 55, 55, 49, 49, 55, 56, 53, 52, 57, 50, 53, 48, 52, 51, 52, 51, 57, 53, 51, 57, 50, 54, 54, 51, 52, 57, 57, 50, 51, 51, 50, 56, 50, 48, 50, 56, 50, 48, 49, 57, 55, 50, 56, 55, 57, 50, 48, 48, 51, 57, 53, 54, 53, 54, 52, 56, 49, 57, 57, 54, 56]⟩, .string ⟨#[45, 53, 55, 56, 57, 54, 48, 52, 52, 54, 49, 56, 54, 53, 56, 48, 57, 55, 55, 49, 49, 55, 56, 53, 52, 57, 50, 53, 48, 52, 51, 52, 51, 57, 53, 51, 57, 50, 54, 54, 51, 52, 57, 57, 50, 51, 51, 50, 56, 50, 48, 50, 56, 50, 48, 49, 57, 55, 50, 56, 55, 57, 50, 48, 48, 51, 57, 53, 54, 53, 54, 52, 56, 49, 57, 57, 54, 56]⟩, .string ⟨#[45, 53, 55, 56, 57, 54, 48, 52, 52, 54, 49, 56, 54, 53, 56, 48, 57, 55, 55, 49, 49, 55, 56, 53, 52, 57, 50, 53, 48, 52, 51, 52, 51, 57, 53, 51, 57, 50, 54, 54, 51, 52, 57, 57, 50, 51, 51, 50, 56, 50, 48, 50, 56, 50, 48, 49, 57, 55, 50, 56, 55, 57, 50, 48, 48, 51, 57, 53, 54, 53, 54, 52, 56, 49, 57, 57, 54, 57]⟩] from rfl] at G
          have hgl := R.lt
          have hgn : w4.heap.size ≠ g := by omega
          replace R := R.alloc (.cells #[.string ⟨#[]⟩, .string ⟨#[45]⟩, .string ⟨#[45, 48]⟩, .string ⟨#[43, 49]⟩, .string ⟨#[53, 55, 56, 57, 54, 48, 52, 52, 54, 49, 56, 54, 53, 56, 48, 57, 55, 55, 49, 49, 55, 56, 53, 52, 57, 50, 53, 48, 52, 51, 52, 51, 57, 53, 51, 57, 50, 54, 54, 51, 52, 57, 57, 50, 51, 51, 50, 56, 50, 48, 50, 56, 50, 48, 49, 57, 55, 50, 56, 55, 57, 50, 48, 48, 51, 57, 53, 54, 53, 54, 52, 56, 49, 57, 57, 54, 56]⟩, .string ⟨#[45, 53, 55, 56, 57, 54, 48, 52, 52, 54, 49, 56, 54, 53, 56, 48, 57, 55, 55, 49, 49, 55, 56, 53, 52, 57, 50, 53, 48, 52, 51, 52, 51, 57, 53, 51, 57, 50, 54, 54, 51, 52, 57, 57, 50, 51, 51, 50, 56, 50, 48, 50, 56, 50, 48, 49, 57, 55, 50, 56, 55, 57, 50, 48, 48, 51, 57, 53, 54, 53, 54, 52, 56, 49, 57, 57, 54, 56]⟩, .string ⟨#[45, 53, 55, 56, 57, 54, 48, 52, 52, 54, 49, 56, 54, 53, 56, 48, 57, 55, 55, 49, 49, 55, 56, 53, 52, 57, 50, 53, 48, 52, 51, 52, 51, 57, 53, 51, 57, 50, 54, 54, 51, 52, 57, 57, 50, 51, 51, 50, 56, 50, 48, 50, 56, 50, 48, 49, 57, 55, 50, 56, 55, 57, 50, 48, 48, 51, 57, 53, 54, 53, 54, 52, 56, 49, 57, 57, 54, 57]⟩] 9)
          replace K := K.alloc (.cells #[.string ⟨#[]⟩, .string ⟨#[45]⟩, .string ⟨#[45, 48]⟩, .string ⟨#[43, 49]⟩, .string ⟨#[53, 55, 56, 57, 54, 48, 52, 52, 54, 49, 56, 54, 53, 56, 48, 57, 55, 55, 49, 49, 55, 56, 53, 52, 57, 50, 53, 48, 52, 51, 52, 51, 57, 53, 51, 57, 50, 54, 54, 51, 52, 57, 57, 50, 51, 51, 50, 56, 50, 48, 50, 56, 50, 48, 49, 57, 55, 50, 56, 55, 57, 50, 48, 48, 51, 57, 53, 54, 53, 54, 52, 56, 49, 57, 57, 54, 56]⟩, .string ⟨#[45, 53, 55, 56, 57, 54, 48, 52, 52, 54, 49, 56, 54, 53, 56, 48, 57, 55, 55, 49, 49, 55, 56, 53, 52, 57, 50, 53, 48, 52, 51, 52, 51, 57, 53, 51, 57, 50, 54, 54, 51, 52, 57, 57, 50, 51, 51, 50, 56, 50, 48, 50, 56, 50, 48, 49, 57, 55, 50, 56, 55, 57, 50, 48, 48, 51, 57, 53, 54, 53, 54, 52, 56, 49, 57, 57, 54, 56]⟩, .string ⟨#[45, 53, 55, 56, 57, 54, 48, 52, 52, 54, 49, 56, 54, 53, 56, 48, 57, 55, 55, 49, 49, 55, 56, 53, 52, 57, 50, 53, 48, 52, 51, 52, 51, 57, 53, 51, 57, 50, 54, 54, 51, 52, 57, 57, 50, 51, 51, 50, 56, 50, 48, 50, 56, 50, 48, 49, 57, 55, 50, 56, 55, 57, 50, 48, 48, 51, 57, 53, 54, 53, 54, 52, 56, 49, 57, 57, 54, 57]⟩] 9)
          go_wp2_with fail
          refine (below_any 7 (by decide) (by decide) g ao n cap cs _ R).mono ?_
          rintro e w6 ⟨_, rfl, ⟨j, rfl, j0, j1⟩, R6, K6⟩
          replace G := G.kept K6 hgn
          replace K := K.trans K6
          obtain ⟨k, rfl⟩ : ∃ k : Nat, j = k := ⟨j.toNat, by omega⟩
          obtain ⟨u, hu, hus⟩ : ∃ u : ByteArray, w6.cell? ⟨w4.heap.size, k, none⟩ = some (.string u) ∧ u.size ≤ 100 := by
            rcases (by omega : k = 0 ∨ k = 1 ∨ k = 2 ∨ k = 3 ∨ k = 4 ∨ k = 5 ∨ k = 6) with rfl | rfl | rfl | rfl | rfl | rfl | rfl
            · exact ⟨_, G.c 0 rfl, by decide⟩
            · exact ⟨_, G.c 1 rfl, by decide⟩
            · exact ⟨_, G.c 2 rfl, by decide⟩
            · exact ⟨_, G.c 3 rfl, by decide⟩
            · exact ⟨_, G.c 4 rfl, by decide⟩
            · exact ⟨_, G.c 5 rfl, by decide⟩
            · exact ⟨_, G.c 6 rfl, by decide⟩
          have q1 : ¬ (9223372036854775807 < T.size + u.size) := by omega
          have HBF := HB.trans (K.below hG hl)
          clear G R R6 K6 K HB
          go_wp2
          go_ret
          exact ⟨_, rfl, by omega, HBF⟩
        · have b3 : (v == 3) = false := beq_eq_false_iff_ne.2 hv3
          have HBF := HB.trans (K.below hG hl)
          clear R K HB
          go_wp2
          go_ret
          exact ⟨_, rfl, by omega, HBF⟩
end Go.Proofs.Ytnnojeggjnddpaa
