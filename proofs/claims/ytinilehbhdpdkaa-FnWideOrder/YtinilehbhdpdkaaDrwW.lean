/- Numbers of four words drawn from a code: the walk. -/
import Derived.Test.YtinilehbhdpdkaaDrw
import Derived.Test.YtinilehbhdpdkaaMulS
namespace Go.Proofs.Ytinilehbhdpdkaa
open Go.RowKit
theorem Rdr.setN {w : World} {g : Nat} {ao : Option Addr} {n cap : Nat} {cs : List Int} (h : Rdr w g ao n cap cs) {p : Addr} (hp : g < p.block) (u : Value) : Rdr (w.setCell p u) g ao n cap cs := by
  obtain ⟨q, hq, B⟩ := h.blk
  refine ⟨⟨q, hq, B.setO (by omega) u⟩, fun i hi => ?_, h.len, h.small, h.byte⟩
  obtain ⟨b, off, e, hb, hc⟩ := h.bytes i hi
  exact ⟨b, off, e, hb, (World.cell?_setCell_other _ _ _ _ (by intro e; rw [e] at hp; simp at hp; omega)).trans hc⟩
theorem Kept.setN {g : Nat} {a b : World} (h : Kept g a b) {p : Addr} (hp : a.heap.size ≤ p.block) (hg : g ≠ p.block) (u : Value) : Kept g a (b.setCell p u) :=
  ⟨h.os, h.tape, h.output, by simpa [World.setCell] using h.size, fun k hk hne => (Below.heap_setCell _ _ _ _ (by omega)).trans (h.block k hk hne), fun j hj hl => (World.cell?_setCell_other _ _ _ _ (by intro e; rw [e] at hg; exact hg rfl)).trans (h.other j hj hl)⟩
def IsWide (v : Value) : Prop := ∃ a3 a2 a1 a0 : Int, v = .agg #[.int .u64 a3, .int .u64 a2, .int .u64 a1, .int .u64 a0] ∧ Word a3 ∧ Word a2 ∧ Word a1 ∧ Word a0
theorem wide_done {w W : World} {g : Nat} {ao : Option Addr} {n cap : Nat} {cs : List Int} {a3 a2 a1 a0 : Int} (hg : g < w.heap.size) (R : Rdr W g ao n cap cs) (K : Kept g w W) (h3 : Word a3) (h2 : Word a2) (h1 : Word a1) (h0 : Word a0) {v0 v1 v2 v3 : Value} :
    RdP g ao n cap cs IsWide w (.returned (.agg #[.int .u64 a3, .int .u64 a2, .int .u64 a1, .int .u64 a0])) ((((W.setCell ⟨w.heap.size, 0, none⟩ v0).setCell ⟨w.heap.size, 1, none⟩ v1).setCell ⟨w.heap.size, 2, none⟩ v2).setCell ⟨w.heap.size, 3, none⟩ v3) :=
  ⟨_, rfl, ⟨a3, a2, a1, a0, rfl, h3, h2, h1, h0⟩, (((R.setN hg _).setN hg _).setN hg _).setN hg _, (((K.setN (Nat.le_refl _) (by show g ≠ w.heap.size; omega) _).setN (Nat.le_refl _) (by show g ≠ w.heap.size; omega) _).setN (Nat.le_refl _) (by show g ≠ w.heap.size; omega) _).setN (Nat.le_refl _) (by show g ≠ w.heap.size; omega) _⟩
theorem wide_done2 {w W : World} {g : Nat} {ao : Option Addr} {n cap : Nat} {cs : List Int} {a3 a2 a1 a0 : Int} (hg : g < w.heap.size) (R : Rdr W g ao n cap cs) (K : Kept g w W) (h3 : Word a3) (h2 : Word a2) (h1 : Word a1) (h0 : Word a0) {v0 v1 v2 v3 : Value} {o : Obj} :
    RdP g ao n cap cs IsWide w (.returned (.agg #[.int .u64 a3, .int .u64 a2, .int .u64 a1, .int .u64 a0])) (((((W.setCell ⟨w.heap.size, 0, none⟩ v0).setCell ⟨w.heap.size, 1, none⟩ v1).setCell ⟨w.heap.size, 2, none⟩ v2).setCell ⟨w.heap.size, 3, none⟩ v3).alloc o) := by
  obtain ⟨v, e, q, R', K'⟩ := wide_done (v0 := v0) (v1 := v1) (v2 := v2) (v3 := v3) hg R K h3 h2 h1 h0
  exact ⟨v, e, q, R'.alloc o, K'.alloc o⟩
theorem pick7 {W : World} {G : Nat} (h : Blk W G [.int .i64 0, .int .i64 1, .int .i64 (-1), .int .i64 2, .int .i64 10, .int .i64 (-9223372036854775808), .int .i64 9223372036854775807]) (k : Nat) (hk : k < 7) : ∃ v : Int, W.cell? ⟨G, k, none⟩ = some (.int .i64 v) ∧ -9223372036854775808 ≤ v ∧ v ≤ 9223372036854775807 := by
  rcases (by omega : k = 0 ∨ k = 1 ∨ k = 2 ∨ k = 3 ∨ k = 4 ∨ k = 5 ∨ k = 6) with rfl | rfl | rfl | rfl | rfl | rfl | rfl
  · exact ⟨_, h.c 0 rfl, by decide, by decide⟩
  · exact ⟨_, h.c 1 rfl, by decide, by decide⟩
  · exact ⟨_, h.c 2 rfl, by decide, by decide⟩
  · exact ⟨_, h.c 3 rfl, by decide, by decide⟩
  · exact ⟨_, h.c 4 rfl, by decide, by decide⟩
  · exact ⟨_, h.c 5 rfl, by decide, by decide⟩
  · exact ⟨_, h.c 6 rfl, by decide, by decide⟩
theorem word_div {p : Int} (h : Word p) (k : Nat) : Word (p / 2 ^ k) := by
  have h1 : (0 : Int) ≤ 2 ^ k := by rw [ipow2]; exact Int.natCast_nonneg _
  refine ⟨Int.ediv_nonneg h.1 h1, ?_⟩
  have := Int.ediv_le_self (b := 2 ^ k) h.1
  have := h.2
  omega
theorem tell_words {z : Int} {w w' : World} {e : Ending} (h : TellP z w e w') : ∃ a3 a2 a1 a0 b, e = .returned (.tuple #[.agg #[.int .u64 a3, .int .u64 a2, .int .u64 a1, .int .u64 a0], .bool b]) ∧ Word a3 ∧ Word a2 ∧ Word a1 ∧ Word a0 ∧ Below w.heap.size w w' := by
  obtain ⟨hB, ⟨_, a3, a2, a1, a0, rfl, g3, g2, g1, g0, _⟩ | ⟨_, rfl⟩⟩ := h
  · exact ⟨a3, a2, a1, a0, true, rfl, g3, g2, g1, g0, hB⟩
  · exact ⟨0, 0, 0, 0, false, rfl, ⟨by decide, by decide⟩, ⟨by decide, by decide⟩, ⟨by decide, by decide⟩, ⟨by decide, by decide⟩, hB⟩
set_option maxRecDepth 100000 in
set_option maxHeartbeats 4000000 in
theorem wide_any (g : Nat) (ao : Option Addr) (n cap : Nat) (cs : List Int) (w : World) (h : Rdr w g ao n cap cs) :
    Calls Try.prog 18 #[.pointer (some ⟨g, 0, none⟩)] w (RdP g ao n cap cs IsWide w) := by
  have hg := h.lt
  have hne : w.heap.size ≠ g := by omega
  have B := Blk.new w [.int .u64 0, .int .u64 0, .int .u64 0, .int .u64 0] 26 rfl
  have R := h.alloc (.cells #[.int .u64 0, .int .u64 0, .int .u64 0, .int .u64 0] 26)
  have K := (Kept.refl g w).alloc (.cells #[.int .u64 0, .int .u64 0, .int .u64 0, .int .u64 0] 26)
  clear h
  go_enter Try.func18, Try.ntmps18
  go_wp2_with fail
  refine (below_any 9 (by decide) (by decide) g ao n cap cs _ R).mono ?_
  rintro e w1 ⟨_, rfl, ⟨x, rfl, x0, x1⟩, R1, K1⟩
  replace B := B.kept K1 hne
  replace K := K.trans K1
  clear R K1
  have R := R1
  clear R1
  rcases (by omega : x = 0 ∨ x = 1 ∨ x = 2 ∨ x = 3 ∨ x = 4 ∨ x = 5 ∨ (x = 6 ∨ x = 7 ∨ x = 8)) with rfl | rfl | rfl | rfl | rfl | rfl | hx
  · have G := Blk.new w1 [.int .i64 0, .int .i64 1, .int .i64 (-1), .int .i64 2, .int .i64 10, .int .i64 (-9223372036854775808), .int .i64 9223372036854775807] 2 rfl
    have hG : w1.heap.size ≠ g := by have := R.lt; omega
    replace B := B.alloc (.cells #[.int .i64 0, .int .i64 1, .int .i64 (-1), .int .i64 2, .int .i64 10, .int .i64 (-9223372036854775808), .int .i64 9223372036854775807] 2)
    replace R := R.alloc (.cells #[.int .i64 0, .int .i64 1, .int .i64 (-1), .int .i64 2, .int .i64 10, .int .i64 (-9223372036854775808), .int .i64 9223372036854775807] 2)
    replace K := K.alloc (.cells #[.int .i64 0, .int .i64 1, .int .i64 (-1), .int .i64 2, .int .i64 10, .int .i64 (-9223372036854775808), .int .i64 9223372036854775807] 2)
    go_wp2_with fail
    refine (below_any 7 (by decide) (by decide) g ao n cap cs _ R).mono ?_
    rintro e w2 ⟨_, rfl, ⟨y, rfl, y0, y1⟩, R1, K1⟩
    replace B := B.kept K1 hne
    replace G := G.kept K1 hG
    replace K := K.trans K1
    clear R K1
    have R := R1
    clear R1
    obtain ⟨k, rfl⟩ := Int.eq_ofNat_of_zero_le y0
    obtain ⟨v, hv, v0, v1⟩ := pick7 G k (by omega)
    have k7 : (k : Int) < 7 := y1
    go_wp2_with fail
    refine (specOf_any v _ v0 v1).mono ?_
    rintro e w3 ⟨a3, a2, a1, a0, rfl, g3, g2, g1, g0, -, hB⟩
    replace B := B.step hB
    replace K := K.trans (Kept.of hB)
    replace R := R.step hB
    clear hB
    clear hv G
    have z0 := B.c 0 rfl; have y0 := B.f 0 rfl; have z1 := B.c 1 rfl; have y1 := B.f 1 rfl; have z2 := B.c 2 rfl; have y2 := B.f 2 rfl; have z3 := B.c 3 rfl; have y3 := B.f 3 rfl; have zl := B.lt
    go_wp2
    refine bodyPost_ret (v := .agg #[.int .u64 a3, .int .u64 a2, .int .u64 a1, .int .u64 a0]) (by simp [results, Try.results18, go_sem, z0, z1, z2, z3]) rfl ?_
    exact wide_done hg R K g3 g2 g1 g0
  · have G := Blk.new w1 [.int .u64 9223372036854775808, .int .u64 0, .int .u64 0, .int .u64 0, .int .u64 9223372036854775807, .int .u64 18446744073709551615, .int .u64 18446744073709551615, .int .u64 18446744073709551615, .int .u64 9223372036854775808, .int .u64 0, .int .u64 0, .int .u64 1, .int .u64 4611686018427387904, .int .u64 0, .int .u64 0, .int .u64 0, .int .u64 0, .int .u64 1, .int .u64 0, .int .u64 0, .int .u64 0, .int .u64 0, .int .u64 1, .int .u64 0] 26 rfl
    have hG : w1.heap.size ≠ g := by have := R.lt; omega
    replace B := B.alloc (.cells #[.int .u64 9223372036854775808, .int .u64 0, .int .u64 0, .int .u64 0, .int .u64 9223372036854775807, .int .u64 18446744073709551615, .int .u64 18446744073709551615, .int .u64 18446744073709551615, .int .u64 9223372036854775808, .int .u64 0, .int .u64 0, .int .u64 1, .int .u64 4611686018427387904, .int .u64 0, .int .u64 0, .int .u64 0, .int .u64 0, .int .u64 1, .int .u64 0, .int .u64 0, .int .u64 0, .int .u64 0, .int .u64 1, .int .u64 0] 26)
    replace R := R.alloc (.cells #[.int .u64 9223372036854775808, .int .u64 0, .int .u64 0, .int .u64 0, .int .u64 9223372036854775807, .int .u64 18446744073709551615, .int .u64 18446744073709551615, .int .u64 18446744073709551615, .int .u64 9223372036854775808, .int .u64 0, .int .u64 0, .int .u64 1, .int .u64 4611686018427387904, .int .u64 0, .int .u64 0, .int .u64 0, .int .u64 0, .int .u64 1, .int .u64 0, .int .u64 0, .int .u64 0, .int .u64 0, .int .u64 1, .int .u64 0] 26)
    replace K := K.alloc (.cells #[.int .u64 9223372036854775808, .int .u64 0, .int .u64 0, .int .u64 0, .int .u64 9223372036854775807, .int .u64 18446744073709551615, .int .u64 18446744073709551615, .int .u64 18446744073709551615, .int .u64 9223372036854775808, .int .u64 0, .int .u64 0, .int .u64 1, .int .u64 4611686018427387904, .int .u64 0, .int .u64 0, .int .u64 0, .int .u64 0, .int .u64 1, .int .u64 0, .int .u64 0, .int .u64 0, .int .u64 0, .int .u64 1, .int .u64 0] 26)
    go_wp2_with fail
    refine (below_any 6 (by decide) (by decide) g ao n cap cs _ R).mono ?_
    rintro e w2 ⟨_, rfl, ⟨y, rfl, q0, q1⟩, R1, K1⟩
    replace B := B.kept K1 hne
    replace G := G.kept K1 hG
    replace K := K.trans K1
    clear R K1
    have R := R1
    clear R1
    have z0 := B.c 0 rfl; have y0 := B.f 0 rfl; have z1 := B.c 1 rfl; have y1 := B.f 1 rfl; have z2 := B.c 2 rfl; have y2 := B.f 2 rfl; have z3 := B.c 3 rfl; have y3 := B.f 3 rfl; have zl := B.lt
    have gl := G.lt
    rcases (by omega : y = 0 ∨ y = 1 ∨ y = 2 ∨ y = 3 ∨ y = 4 ∨ y = 5) with rfl | rfl | rfl | rfl | rfl | rfl
    · have c0 := G.c 0 rfl; have c1 := G.c 1 rfl; have c2 := G.c 2 rfl; have c3 := G.c 3 rfl
      clear G
      go_wp2
      refine bodyPost_ret (v := .agg #[.int .u64 9223372036854775808, .int .u64 0, .int .u64 0, .int .u64 0]) (by simp [results, Try.results18, go_sem, z0, z1, z2, z3]) rfl ?_
      exact wide_done hg R K ⟨by decide, by decide⟩ ⟨by decide, by decide⟩ ⟨by decide, by decide⟩ ⟨by decide, by decide⟩
    · have c0 := G.c 4 rfl; have c1 := G.c 5 rfl; have c2 := G.c 6 rfl; have c3 := G.c 7 rfl
      clear G
      go_wp2
      refine bodyPost_ret (v := .agg #[.int .u64 9223372036854775807, .int .u64 18446744073709551615, .int .u64 18446744073709551615, .int .u64 18446744073709551615]) (by simp [results, Try.results18, go_sem, z0, z1, z2, z3]) rfl ?_
      exact wide_done hg R K ⟨by decide, by decide⟩ ⟨by decide, by decide⟩ ⟨by decide, by decide⟩ ⟨by decide, by decide⟩
    · have c0 := G.c 8 rfl; have c1 := G.c 9 rfl; have c2 := G.c 10 rfl; have c3 := G.c 11 rfl
      clear G
      go_wp2
      refine bodyPost_ret (v := .agg #[.int .u64 9223372036854775808, .int .u64 0, .int .u64 0, .int .u64 1]) (by simp [results, Try.results18, go_sem, z0, z1, z2, z3]) rfl ?_
      exact wide_done hg R K ⟨by decide, by decide⟩ ⟨by decide, by decide⟩ ⟨by decide, by decide⟩ ⟨by decide, by decide⟩
    · have c0 := G.c 12 rfl; have c1 := G.c 13 rfl; have c2 := G.c 14 rfl; have c3 := G.c 15 rfl
      clear G
      go_wp2
      refine bodyPost_ret (v := .agg #[.int .u64 4611686018427387904, .int .u64 0, .int .u64 0, .int .u64 0]) (by simp [results, Try.results18, go_sem, z0, z1, z2, z3]) rfl ?_
      exact wide_done hg R K ⟨by decide, by decide⟩ ⟨by decide, by decide⟩ ⟨by decide, by decide⟩ ⟨by decide, by decide⟩
    · have c0 := G.c 16 rfl; have c1 := G.c 17 rfl; have c2 := G.c 18 rfl; have c3 := G.c 19 rfl
      clear G
      go_wp2
      refine bodyPost_ret (v := .agg #[.int .u64 0, .int .u64 1, .int .u64 0, .int .u64 0]) (by simp [results, Try.results18, go_sem, z0, z1, z2, z3]) rfl ?_
      exact wide_done hg R K ⟨by decide, by decide⟩ ⟨by decide, by decide⟩ ⟨by decide, by decide⟩ ⟨by decide, by decide⟩
    · have c0 := G.c 20 rfl; have c1 := G.c 21 rfl; have c2 := G.c 22 rfl; have c3 := G.c 23 rfl
      clear G
      go_wp2
      refine bodyPost_ret (v := .agg #[.int .u64 0, .int .u64 0, .int .u64 1, .int .u64 0]) (by simp [results, Try.results18, go_sem, z0, z1, z2, z3]) rfl ?_
      exact wide_done hg R K ⟨by decide, by decide⟩ ⟨by decide, by decide⟩ ⟨by decide, by decide⟩ ⟨by decide, by decide⟩
  · go_wp2_with fail
    refine (once_any 2 (by decide) (by decide) g ao n cap cs _ R).mono ?_
    rintro e w2 ⟨_, rfl, ⟨b, rfl⟩, R1, K1⟩
    replace B := B.kept K1 hne
    replace K := K.trans K1
    clear R K1
    have R := R1
    clear R1
    have L := Rd.lit w2 (cs := #[.int .u32 1]) (e := 63) (zs := [1]) rfl rfl (by simp [maxLen])
    replace B := B.alloc (.cells #[.int .u32 1] 63)
    replace R := R.alloc (.cells #[.int .u32 1] 63)
    replace K := K.alloc (.cells #[.int .u32 1] 63)
    go_wp2_with fail
    refine (below_any 255 (by decide) (by decide) g ao n cap cs _ R).mono ?_
    rintro e w3 ⟨_, rfl, ⟨y, rfl, y0, y1⟩, R1, K1⟩
    replace B := B.kept K1 hne
    replace L := L.kept R K1
    replace K := K.trans K1
    clear R K1
    have R := R1
    clear R1
    obtain ⟨k, rfl⟩ := Int.eq_ofNat_of_zero_le y0
    go_wp2_with fail
    refine (left_any _ 1 1 k [1] _ rfl (dig_cons.2 ⟨by omega, dig_nil⟩) L (by omega) (by omega)).mono ?_
    rintro e w4 ⟨o1, n1, c1, zs1, rfl, k1, k2, k3, k4, k5, k6, hB⟩
    replace B := B.step hB
    replace K := K.trans (Kept.of hB)
    replace R := R.step hB
    clear hB L
    go_wp2_with fail
    refine (trim_any b o1 n1 c1 zs1 _ k1 k2 k4.1 k6 (by omega)).mono ?_
    rintro e w5 ⟨s2, o2, n2, c2, d2, rfl, l1, l2, l3, l4, l5, l6, l7, hB⟩
    have hv0 := val_nonneg k4.1
    have N : IsNum w5 s2 o2 n2 c2 d2 (if b then -val zs1 else val zs1) 1000 := num_of l1 l2 (by omega) l4 l5 l6 l7 (by cases b <;> simp <;> omega) (by intro hz; cases b <;> simp at hz ⊢ <;> omega)
    replace B := B.step hB
    replace K := K.trans (Kept.of hB)
    replace R := R.step hB
    clear hB k1 k2 k3 k4 k5 k6 l1 l2 l3 l4 l5 l6 l7 hv0
    go_wp2_with fail
    refine (toW_any s2 o2 n2 c2 d2 _ 1000 _ N (by omega)).mono ?_
    intro e w7 hT
    obtain ⟨a3, a2, a1, a0, b', rfl, g3, g2, g1, g0, hB⟩ := tell_words hT
    replace B := B.step hB
    replace K := K.trans (Kept.of hB)
    replace R := R.step hB
    clear hB hT N
    have z0 := B.c 0 rfl; have y0 := B.f 0 rfl; have z1 := B.c 1 rfl; have y1 := B.f 1 rfl; have z2 := B.c 2 rfl; have y2 := B.f 2 rfl; have z3 := B.c 3 rfl; have y3 := B.f 3 rfl; have zl := B.lt
    go_wp2
    refine bodyPost_ret (v := .agg #[.int .u64 a3, .int .u64 a2, .int .u64 a1, .int .u64 a0]) (by simp [results, Try.results18, go_sem, World.cell?_alloc_past, z0, z1, z2, z3, zl]) rfl ?_
    exact wide_done2 hg R K g3 g2 g1 g0
  · go_wp2_with fail
    refine (word_any g ao n cap cs _ R).mono ?_
    rintro e w2 ⟨_, rfl, ⟨a3, rfl, g3⟩, R1, K1⟩
    replace B := B.kept K1 hne
    replace K := K.trans K1
    clear R K1
    have R := R1
    clear R1
    go_wp2_with fail
    refine (word_any g ao n cap cs _ R).mono ?_
    rintro e w3 ⟨_, rfl, ⟨a2, rfl, g2⟩, R1, K1⟩
    replace B := B.kept K1 hne
    replace K := K.trans K1
    clear R K1
    have R := R1
    clear R1
    go_wp2_with fail
    refine (word_any g ao n cap cs _ R).mono ?_
    rintro e w4 ⟨_, rfl, ⟨a1, rfl, g1⟩, R1, K1⟩
    replace B := B.kept K1 hne
    replace K := K.trans K1
    clear R K1
    have R := R1
    clear R1
    go_wp2_with fail
    refine (word_any g ao n cap cs _ R).mono ?_
    rintro e w5 ⟨_, rfl, ⟨a0, rfl, g0⟩, R1, K1⟩
    replace B := B.kept K1 hne
    replace K := K.trans K1
    clear R K1
    have R := R1
    clear R1
    have z0 := B.c 0 rfl; have y0 := B.f 0 rfl; have z1 := B.c 1 rfl; have y1 := B.f 1 rfl; have z2 := B.c 2 rfl; have y2 := B.f 2 rfl; have z3 := B.c 3 rfl; have y3 := B.f 3 rfl; have zl := B.lt
    go_wp2
    refine bodyPost_ret (v := .agg #[.int .u64 a3, .int .u64 a2, .int .u64 a1, .int .u64 a0]) (by simp [results, Try.results18, go_sem, z0, z1, z2, z3]) rfl ?_
    exact wide_done hg R K g3 g2 g1 g0
  · go_wp2_with fail
    refine (word_any g ao n cap cs _ R).mono ?_
    rintro e w2 ⟨_, rfl, ⟨p, rfl, p0, p1⟩, R1, K1⟩
    replace B := B.kept K1 hne
    replace K := K.trans K1
    clear R K1
    have R := R1
    clear R1
    go_wp2_with fail
    refine (below_any 64 (by decide) (by decide) g ao n cap cs _ R).mono ?_
    rintro e w3 ⟨_, rfl, ⟨y, rfl, y0, y1⟩, R1, K1⟩
    replace B := B.kept K1 hne
    replace K := K.trans K1
    clear R K1
    have R := R1
    clear R1
    obtain ⟨k, rfl⟩ := Int.eq_ofNat_of_zero_le y0
    have hk : IntKind.u64.wrap (k : Int) = (k : Int) := by rw [IntKind.wrap_u64]; omega
    go_wp2_with fail
    refine (word_any g ao n cap cs _ R).mono ?_
    rintro e w4 ⟨_, rfl, ⟨a0, rfl, g0⟩, R1, K1⟩
    replace B := B.kept K1 hne
    replace K := K.trans K1
    clear R K1
    have R := R1
    clear R1
    have z0 := B.c 0 rfl; have y0 := B.f 0 rfl; have z1 := B.c 1 rfl; have y1 := B.f 1 rfl; have z2 := B.c 2 rfl; have y2 := B.f 2 rfl; have z3 := B.c 3 rfl; have y3 := B.f 3 rfl; have zl := B.lt
    go_wp2
    refine bodyPost_ret (v := .agg #[.int .u64 0, .int .u64 0, .int .u64 (p / 2 ^ k), .int .u64 a0]) (by simp [results, Try.results18, go_sem, z0, z1, z2, z3]) rfl ?_
    exact wide_done hg R K ⟨by decide, by decide⟩ ⟨by decide, by decide⟩ (word_div ⟨p0, p1⟩ k) g0
  · go_wp2_with fail
    refine (word_any g ao n cap cs _ R).mono ?_
    rintro e w2 ⟨_, rfl, ⟨p, rfl, p0, p1⟩, R1, K1⟩
    replace B := B.kept K1 hne
    replace K := K.trans K1
    clear R K1
    have R := R1
    clear R1
    go_wp2_with fail
    refine (int_any (wrap64 p) _ (by unfold wrap64; omega) (by unfold wrap64; omega)).mono ?_
    rintro e w3 ⟨s1, o1, n1, c1, d1, rfl, N1, hB⟩
    replace B := B.step hB
    replace K := K.trans (Kept.of hB)
    replace R := R.step hB
    clear hB
    go_wp2_with fail
    refine (word_any g ao n cap cs _ R).mono ?_
    rintro e w4 ⟨_, rfl, ⟨q, rfl, q0, q1⟩, R1, K1⟩
    replace B := B.kept K1 hne
    replace N1 := N1.kept R K1
    replace K := K.trans K1
    clear R K1
    have R := R1
    clear R1
    go_wp2_with fail
    refine (int_any (wrap64 q) _ (by unfold wrap64; omega) (by unfold wrap64; omega)).mono ?_
    rintro e w5 ⟨s2, o2, n2, c2, d2, rfl, N2, hB⟩
    replace B := B.step hB
    replace N1 := N1.below hB
    replace K := K.trans (Kept.of hB)
    replace R := R.step hB
    clear hB
    go_wp2_with fail
    refine (mul_any s1 s2 o1 o2 n1 n2 c1 c2 2 d1 d2 _ _ _ N1 N2 (by omega)).mono ?_
    rintro e w6 ⟨s3, o3, n3, c3, d3, rfl, N3, hB⟩
    replace B := B.step hB
    replace K := K.trans (Kept.of hB)
    replace R := R.step hB
    clear hB
    go_wp2_with fail
    refine (toW_any s3 o3 n3 c3 d3 _ (2 + 2) _ N3 (by omega)).mono ?_
    intro e w7 hT
    obtain ⟨a3, a2, a1, a0, b, rfl, g3, g2, g1, g0, hB⟩ := tell_words hT
    replace B := B.step hB
    replace K := K.trans (Kept.of hB)
    replace R := R.step hB
    clear hB hT N1 N2 N3
    have z0 := B.c 0 rfl; have y0 := B.f 0 rfl; have z1 := B.c 1 rfl; have y1 := B.f 1 rfl; have z2 := B.c 2 rfl; have y2 := B.f 2 rfl; have z3 := B.c 3 rfl; have y3 := B.f 3 rfl; have zl := B.lt
    go_wp2
    refine bodyPost_ret (v := .agg #[.int .u64 a3, .int .u64 a2, .int .u64 a1, .int .u64 a0]) (by simp [results, Try.results18, go_sem, World.cell?_alloc_past, z0, z1, z2, z3, zl]) rfl ?_
    exact wide_done2 hg R K g3 g2 g1 g0
  · have e0 : (x == 0) = false := by rw [beq_eq_false_iff_ne]; omega
    have e1 : (x == 1) = false := by rw [beq_eq_false_iff_ne]; omega
    have e2 : (x == 2) = false := by rw [beq_eq_false_iff_ne]; omega
    have e3 : (x == 3) = false := by rw [beq_eq_false_iff_ne]; omega
    have e4 : (x == 4) = false := by rw [beq_eq_false_iff_ne]; omega
    have e5 : (x == 5) = false := by rw [beq_eq_false_iff_ne]; omega
    clear hx
    go_wp2_with fail
    refine (near_any g ao n cap cs _ R).mono ?_
    rintro e w2 ⟨_, rfl, ⟨y, rfl, y0, y1⟩, R1, K1⟩
    replace B := B.kept K1 hne
    replace K := K.trans K1
    clear R K1
    have R := R1
    clear R1
    go_wp2_with fail
    refine (specOf_any y _ (by omega) (by omega)).mono ?_
    rintro e w3 ⟨a3, a2, a1, a0, rfl, g3, g2, g1, g0, -, hB⟩
    replace B := B.step hB
    replace K := K.trans (Kept.of hB)
    replace R := R.step hB
    clear hB
    have z0 := B.c 0 rfl; have y0 := B.f 0 rfl; have z1 := B.c 1 rfl; have y1 := B.f 1 rfl; have z2 := B.c 2 rfl; have y2 := B.f 2 rfl; have z3 := B.c 3 rfl; have y3 := B.f 3 rfl; have zl := B.lt
    go_wp2
    refine bodyPost_ret (v := .agg #[.int .u64 a3, .int .u64 a2, .int .u64 a1, .int .u64 a0]) (by simp [results, Try.results18, go_sem, z0, z1, z2, z3]) rfl ?_
    exact wide_done hg R K g3 g2 g1 g0
end Go.Proofs.Ytinilehbhdpdkaa
